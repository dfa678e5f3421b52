/-
  FnExactYardNode: at every yard and all numbers that may come in, YardNode answers as its model, writes into no argument, and owns its answer.
-/
import Derived.Test.YtlhfiapfncikdaaGreatDoorPN35
import Derived.Test.YtlhfiapfncikdaaGreatDoorRows
import Derived.WalkKit
import Derived.ProofKit
import Derived.OpenShut
import Derived.Below
import Derived.SevenTiedAt
import Derived.Test.YtlhfiapfncikdaaGreatDoorCards
import Derived.Test.YtlhfiapfncikdaaGreatDoorTie
namespace Go.Proofs.YtlhfiapfncikdaaGreatDoor.fnExactYardNode
open Go.ChangeShapes Go.WideShapes Go.ChangeAt Go.RowKit
set_option linter.unusedVariables false
abbrev LL:List (String×DataW Unit):=[("math/bits.deBruijn32tab",Rows.laid_math_bits_deBruijn32tab),("math/bits.deBruijn64tab",Rows.laid_math_bits_deBruijn64tab),("internal/strconv.uint64pow10",Rows.laid_internal_strconv_uint64pow10),("loop.example/g00658/impl.errForm",Rows.laid_loop_example_g00658_impl_errForm),("loop.example/g00658/impl.errNone",Rows.laid_loop_example_g00658_impl_errNone),("loop.example/g00658/impl.errThere",Rows.laid_loop_example_g00658_impl_errThere),("loop.example/g00658/impl.errRange",Rows.laid_loop_example_g00658_impl_errRange),("loop.example/g00658/impl.errFull",Rows.laid_loop_example_g00658_impl_errFull),("loop.example/g00658/impl.errState",Rows.laid_loop_example_g00658_impl_errState),("loop.example/g00658/impl.errLabel",Rows.laid_loop_example_g00658_impl_errLabel)]
theorem own:ownKnob Tryz.prog.godebug=none:=by kernel_rfl
theorem laidOut:laidOutB Tryz.prog=true:=by kernel_rfl
set_option maxRecDepth 100000 in
theorem walk {H:Type}{enc:TypeId×Value→H}(W:World)(base:Nat)(v0 v1 v2:Value)(d0 d1 d2:DataW H)(p0 p1 p2:List MemPlace)(hL:laidMetH Tryz.prog LL W)
 (o0:Value.okWide Tryz.prog W .any base 31 v0) (t0:DataW.Trod enc Tryz.prog W 0 (fun _=>true) true 31 v0 d0 p0)
 (o1:Value.okWide Tryz.prog W .any base 2 v1) (t1:DataW.Trod enc Tryz.prog W 0 (fun _=>true) true 2 v1 d1 p1)
 (o2:Value.okWide Tryz.prog W .any base 2 v2) (t2:DataW.Trod enc Tryz.prog W 0 (fun _=>true) true 2 v2 d2 p2) :
 Calls Tryz.prog 4 #[v0,v1,v2] W fun e w'=>e=.returned (.bool true)∧Below W.heap.size W w':=by
 obtain ⟨L0,L1,L2,x3,L3,L4,L5,x7,a0,c0,a1,c1,a2,c2,a3,c3,a4,c4,a5,c5,rfl,h0⟩:=aQ.Q8 o0 t0;obtain ⟨M,rfl,m0,m1⟩:=aQ.Q7 o1 t1;obtain ⟨K,rfl⟩:=aQ.Ho o2 t2;obtain ⟨ad,hd⟩:=zI.ad1 hL;exact aQ.Ww h0 hd m0 m1
set_option maxRecDepth 100000 in
theorem door_met (os:Os)(args:Array Value):laidMetH Tryz.prog LL ((World.doorLaid Tryz.prog 400 os).forCall (fun _ _=>0) ⟨#[],args,[]⟩).memory:=
 laidMetH_of_parts3 (fuel:=8) (laidMet_of_run' 8 (by kernel_rfl) (by kernel_rfl)) (by kernel_rfl) (by kernel_rfl)
set_option maxRecDepth 100000 in
theorem lifted (os:Os)(started:os.Started)(H:Type)(enc:TypeId×Value→H) :
 ReturnsInHanded {} Tryz.checked os 4 .any (fun w args=>(Rows.fnExactYardNodeSpec.pre enc Tryz.prog Tryz.f4 [] false w args∧laidMetH Tryz.prog LL w)∧sizedMet enc Tryz.prog Tryz.f4 (OpenSpec.ofChange Rows.fnExactYardNodeSpec) false w args) (Rows.fnExactYardNodeSpec.post enc Tryz.prog Tryz.f4 false true false false):=by
 refine returnsInHanded_of_change_and (C:=Tryz.checked) (X:=fun w _=>laidMetH Tryz.prog LL w) (fun _ _ _ hh h=>h.of_heap hh) own started (by kernel_rfl) Tryz.func4
  (ChangeSpec.witness_shaped (enc:=enc) (C:=Tryz.checked) (os:=os) (X:=fun w _=>laidMetH Tryz.prog LL w) false (World.doorLaid Tryz.prog 400 os) #[.agg #[.slice none 0 0,.slice none 0 0,.slice none 0 0,.int .i64 0,.slice none 0 0,.slice none 0 0,.slice none 0 0,.int .i64 0],.int .i64 0,.int .i64 0] 20 rfl (World.shaped_of_RefB (by kernel_rfl) (by kernel_rfl)) (by kernel_rfl) (by kernel_rfl) (by kernel_rfl) (door_met os _)) ?_
 intro W base args ds gs before hval0 hW hcnd _ hL _
 have hval:∀ (j:Nat) t v,Tryz.f4.params[j]? = some t→args[j]? = some v→Value.okWide Tryz.prog W .any base t v:=hval0
 have hW':=hW
 obtain ⟨p,q,hA0,hV,rfl,hfz,hnd⟩:=hW
 have hA:DataW.TrodAll enc Tryz.prog W 0 (fun _=>true) true Tryz.f4.params.toList args.toList ds p:=hA0
 rw [Tryz.params4] at hA hval
 obtain ⟨v0,vs0,d0,ds0,p0,q0,hargs,rfl,rfl,t0,r0⟩:=trodAll_cons hA
 obtain ⟨v1,vs1,d1,ds1,p1,q1,rfl,rfl,rfl,t1,r1⟩:=trodAll_cons r0
 obtain ⟨v2,vs2,d2,ds2,p2,q2,rfl,rfl,rfl,t2,r2⟩:=trodAll_cons r1
 obtain ⟨rfl,rfl,rfl⟩:=trodAll_nil r2
 obtain rfl:args=#[v0,v1,v2]:=by cases args;simp_all
 obtain ⟨g0,gs0,q0',rfl,xw⟩:=vV.gV hV
 obtain ⟨g1,gs1,q1',rfl,hV1⟩:=vV.gV xw
 obtain ⟨g2,gs2,q2',rfl,hV2⟩:=vV.gV hV1
 obtain ⟨g3,gs3,q3',rfl,hV3⟩:=vV.gV hV2
 obtain ⟨g4,gs4,q4',rfl,hV4⟩:=vV.gV hV3
 obtain ⟨g5,gs5,q5',rfl,hV5⟩:=vV.gV hV4
 obtain ⟨g6,gs6,q6',rfl,hV6⟩:=vV.gV hV5
 obtain ⟨rfl,_⟩:=trodVars_none hV6
 clear hA0 hval0
 exact (walk W base v0 v1 v2 d0 d1 d2 p0 p1 p2 hL (hval 0 31 v0 rfl rfl) t0 (hval 1 2 v1 rfl rfl) t1 (hval 2 2 v2 rfl rfl) t2).mono fun e W' ⟨he,hg⟩=>⟨_,he,vV.VP rfl laidOut (by kernel_rfl) (by kernel_rfl) rfl Tryz.underlying4 hW' hg⟩
theorem j10:(Rows.fnExactYardNodeRow.inPlace==Tryz.prog.inPlace 4)=true:=by kernel_rfl
theorem j11:(Rows.fnExactYardNodeRow.unfollowed==Tryz.prog.unfollowed 4)=true:=by kernel_rfl
theorem j12:(Rows.fnExactYardNodeRow.recurses==Tryz.prog.recurses 4)=true:=by kernel_rfl
theorem j13:(Rows.fnExactYardNodeRow.named==Tryz.prog.varsNamed 4)=true:=by kernel_rfl
theorem closed:joinedFacts Tryz.prog 4 Tryz.f4 Rows.fnExactYardNodeSpec Rows.fnExactYardNodeRow=true:=by
 unfold joinedFacts
 rw [j10,j11,j12,j13]
 kernel_rfl
theorem over:Rows.fnExactYardNodeRow.holds Tryz.pinned (OpenSpec.ofChange Rows.fnExactYardNodeSpec):=
 OpenClaim.holds_of_wide 4 Tryz.f4 rfl rfl rfl rfl rfl rfl rfl ⟨rfl,rfl,rfl,rfl,rfl⟩ rfl rfl rfl rfl rfl (by kernel_rfl) Tryz.func4 closed
  (of_decide_eq_true (by kernel_rfl)) (by unfold Func.isWrapper;first | (rw [if_pos (by decide +kernel)];kernel_rfl) | (rw [if_neg (by decide +kernel)];exact ⟨rfl,rfl⟩))
  (fun os started H enc _=>lifted os started H enc)
theorem proved:Rows.FnExactYardNodeCardSaid:=
 Claim7.holds_tied_plain_at .later [] [.data,.data,.data,.sentinel,.sentinel,.sentinel,.sentinel,.sentinel,.sentinel,.sentinel] true (true, "25ee21c1d46d78b1321f0011344aa16379841fc5c184a25511d64b06252aea6c") true
  over (fun _ h=>by cases h) (by kernel_rfl) (fun _ h=>by cases h) fnExactYardNode_row_tie rfl ⟨rfl,rfl⟩ (by kernel_rfl) rfl
  (fun f fn hf hfn=>by
   obtain rfl:f=4:=Option.some.inj ((show Tryz.prog.funcNamed "loop.example/g00658/laws.FnExactYardNode" = some 4 by kernel_rfl).symm.trans hf) |>.symm
   obtain rfl:fn=Tryz.f4:=(Option.some.inj (Tryz.func4.symm.trans hfn)).symm
   exact ⟨by kernel_rfl,fun j t ht=>by
    rw [Tryz.params4] at ht
    have hm:t∈([31,2,2]:List TypeId):=by simpa using Array.mem_of_getElem? ht
    have hall:(([31,2,2]:List TypeId).all fun u=>!Tryz.prog.wantsStandIn u)=true:=by kernel_rfl
    exact (show Tryz.prog.wantsStandIn t=false by simpa using List.all_eq_true.1 hall t hm)⟩)
  (by kernel_rfl)
end Go.Proofs.YtlhfiapfncikdaaGreatDoor.fnExactYardNode
