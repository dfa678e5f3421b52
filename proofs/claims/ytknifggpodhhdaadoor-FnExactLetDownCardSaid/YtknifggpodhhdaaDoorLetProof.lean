/-
  The law on LetDown holds: for every desk, two labels and a word the program answers as the model, in memory of its own, and the arguments stay as they were, where the four refusals are laid as the program text lays them.
-/
import Derived.Test.YtknifggpodhhdaaDoorRows
import Derived.WalkKit
import Derived.ProofKit
import Derived.OpenShut
import Derived.Below
import Derived.Test.YtknifggpodhhdaaDoorDLaw4
import Derived.Test.YtknifggpodhhdaaDoorLift
import Derived.SevenTiedAt
import Derived.Test.YtknifggpodhhdaaDoorCards
import Derived.Test.YtknifggpodhhdaaDoorTie
import Derived.Test.YtknifggpodhhdaaDoorTables
namespace Go.Proofs.YtknifggpodhhdaaDoor.fnExactLetDown
open Go.ChangeShapes Go.WideShapes Go.ChangeAt Go.RowKit
set_option linter.unusedVariables false

theorem own : ownKnob Tryd.prog.godebug = none := by kernel_rfl
theorem laidOut : laidOutB Tryd.prog = true := by kernel_rfl

set_option maxRecDepth 100000 in
theorem walk {H : Type} {enc : TypeId × Value → H} (W : World) (base : Nat) (v0 v1 v2 v3 : Value) (d0 d1 d2 d3 : DataW H) (p0 p1 p2 p3 : List MemPlace) (hL : laidMetH Tryd.prog [("loop.example/g00658/impl.errForm", Rows.laid_loop_example_g00658_impl_errForm), ("loop.example/g00658/impl.errLabel", Rows.laid_loop_example_g00658_impl_errLabel), ("loop.example/g00658/impl.errRange", Rows.laid_loop_example_g00658_impl_errRange), ("loop.example/g00658/impl.errFull", Rows.laid_loop_example_g00658_impl_errFull)] W)
    (o0 : Value.okWide Tryd.prog W .any base 60 v0) (t0 : DataW.Trod enc Tryd.prog W 0 (fun _ => true) true 60 v0 d0 p0)
    (o1 : Value.okWide Tryd.prog W .any base 61 v1) (t1 : DataW.Trod enc Tryd.prog W 0 (fun _ => true) true 61 v1 d1 p1)
    (o2 : Value.okWide Tryd.prog W .any base 61 v2) (t2 : DataW.Trod enc Tryd.prog W 0 (fun _ => true) true 61 v2 d2 p2)
    (o3 : Value.okWide Tryd.prog W .any base 2 v3) (t3 : DataW.Trod enc Tryd.prog W 0 (fun _ => true) true 2 v3 d3 p3) :
    Calls Tryd.prog 5 #[v0, v1, v2, v3] W fun e w' => e = .returned (.bool true) ∧ Below W.heap.size W w' := by
  obtain ⟨_, _, _, _, _, _, _, _, _, _, _, rfl, hr⟩ := RepC.open_Desk o0 t0; obtain ⟨_, _, rfl⟩ := RepC.open_lab2 o1 t1; obtain ⟨_, _, rfl⟩ := RepC.open_lab2 o2 t2; obtain ⟨_, rfl, rfl, rfl, _⟩ := open_int Tryd.underlying2 o3 t3; obtain ⟨_, _, _, _, hS⟩ := SenC.sent_of hL; exact RepC.law_letdown hr hS

set_option maxRecDepth 100000 in
theorem door_met (os : Os) (args : Array Value) : laidMetH Tryd.prog [("loop.example/g00658/impl.errForm", Rows.laid_loop_example_g00658_impl_errForm), ("loop.example/g00658/impl.errLabel", Rows.laid_loop_example_g00658_impl_errLabel), ("loop.example/g00658/impl.errRange", Rows.laid_loop_example_g00658_impl_errRange), ("loop.example/g00658/impl.errFull", Rows.laid_loop_example_g00658_impl_errFull)] ((World.doorLaid Tryd.prog 400 os).forCall (fun _ _ => 0) ⟨#[], args, []⟩).memory :=
  laidMetH_of_parts3 (fuel := 8) (laidMet_of_run' 8 (by kernel_rfl) (by kernel_rfl)) (by kernel_rfl) (by kernel_rfl)

set_option maxRecDepth 100000 in
theorem lifted (os : Os) (started : os.Started) (H : Type) (enc : TypeId × Value → H) :
    ReturnsInHanded {} Tryd.checked os 5 .any (fun w args => (Rows.fnExactLetDownSpec.pre enc Tryd.prog Tryd.f5 [] false w args ∧ laidMetH Tryd.prog [("loop.example/g00658/impl.errForm", Rows.laid_loop_example_g00658_impl_errForm), ("loop.example/g00658/impl.errLabel", Rows.laid_loop_example_g00658_impl_errLabel), ("loop.example/g00658/impl.errRange", Rows.laid_loop_example_g00658_impl_errRange), ("loop.example/g00658/impl.errFull", Rows.laid_loop_example_g00658_impl_errFull)] w) ∧ sizedMet enc Tryd.prog Tryd.f5 (OpenSpec.ofChange Rows.fnExactLetDownSpec) false w args) (Rows.fnExactLetDownSpec.post enc Tryd.prog Tryd.f5 false true false false) := by
  refine returnsInHanded_of_change_and (C := Tryd.checked) (X := fun w _ => laidMetH Tryd.prog [("loop.example/g00658/impl.errForm", Rows.laid_loop_example_g00658_impl_errForm), ("loop.example/g00658/impl.errLabel", Rows.laid_loop_example_g00658_impl_errLabel), ("loop.example/g00658/impl.errRange", Rows.laid_loop_example_g00658_impl_errRange), ("loop.example/g00658/impl.errFull", Rows.laid_loop_example_g00658_impl_errFull)] w) (fun _ _ _ hh h => h.of_heap hh) own started (by kernel_rfl) Tryd.func5
    (ChangeSpec.witness_shaped (enc := enc) (C := Tryd.checked) (os := os) (X := fun w _ => laidMetH Tryd.prog [("loop.example/g00658/impl.errForm", Rows.laid_loop_example_g00658_impl_errForm), ("loop.example/g00658/impl.errLabel", Rows.laid_loop_example_g00658_impl_errLabel), ("loop.example/g00658/impl.errRange", Rows.laid_loop_example_g00658_impl_errRange), ("loop.example/g00658/impl.errFull", Rows.laid_loop_example_g00658_impl_errFull)] w) false (World.doorLaid Tryd.prog 400 os) #[.agg #[.slice none 0 0, .slice none 0 0, .slice none 0 0, .int .i64 0, .int .i64 0], .agg #[.int .i64 0, .int .i64 0], .agg #[.int .i64 0, .int .i64 0], .int .i64 0] 20 rfl (World.shaped_of_RefB (by kernel_rfl) (by kernel_rfl)) (by kernel_rfl) (by kernel_rfl) (by kernel_rfl) (door_met os _)) ?_
  intro W base args ds gs before hval0 hW hcnd _ hL _
  have hval : ∀ (j : Nat) t v, Tryd.f5.params[j]? = some t → args[j]? = some v → Value.okWide Tryd.prog W .any base t v := hval0
  have hW' := hW
  obtain ⟨p, q, hA0, hV, rfl, hfz, hnd⟩ := hW
  have hA : DataW.TrodAll enc Tryd.prog W 0 (fun _ => true) true Tryd.f5.params.toList args.toList ds p := hA0
  rw [Tryd.params5] at hA hval
  obtain ⟨v0, vs0, d0, ds0, p0, q0, hargs, rfl, rfl, t0, r0⟩ := trodAll_cons hA
  obtain ⟨v1, vs1, d1, ds1, p1, q1, rfl, rfl, rfl, t1, r1⟩ := trodAll_cons r0
  obtain ⟨v2, vs2, d2, ds2, p2, q2, rfl, rfl, rfl, t2, r2⟩ := trodAll_cons r1
  obtain ⟨v3, vs3, d3, ds3, p3, q3, rfl, rfl, rfl, t3, r3⟩ := trodAll_cons r2
  obtain ⟨rfl, rfl, rfl⟩ := trodAll_nil r3
  obtain rfl : args = #[v0, v1, v2, v3] := by cases args; simp_all
  obtain ⟨g0, gs0, q0', rfl, hV0⟩ := LiftL.trodVars_cons hV
  obtain ⟨g1, gs1, q1', rfl, hV1⟩ := LiftL.trodVars_cons hV0
  obtain ⟨g2, gs2, q2', rfl, hV2⟩ := LiftL.trodVars_cons hV1
  obtain ⟨g3, gs3, q3', rfl, hV3⟩ := LiftL.trodVars_cons hV2
  obtain ⟨rfl, _⟩ := trodVars_none hV3
  clear hA0 hval0
  exact (walk W base v0 v1 v2 v3 d0 d1 d2 d3 p0 p1 p2 p3 hL (hval 0 60 v0 rfl rfl) t0 (hval 1 61 v1 rfl rfl) t1 (hval 2 61 v2 rfl rfl) t2 (hval 3 2 v3 rfl rfl) t3).mono fun e W' ⟨he, hg⟩ => ⟨_, he, LiftL.post_law rfl laidOut (by kernel_rfl) (by kernel_rfl) rfl Tryd.underlying4 hW' hg⟩

theorem over : Rows.fnExactLetDownRow.holds Tryd.pinned (OpenSpec.ofChange Rows.fnExactLetDownSpec) :=
  OpenClaim.holds_of_wide 5 Tryd.f5 rfl rfl rfl rfl rfl rfl rfl ⟨rfl, rfl, rfl, rfl, rfl⟩ rfl rfl rfl rfl rfl (by kernel_rfl) Tryd.func5 (by kernel_rfl)
    (of_decide_eq_true (by kernel_rfl)) (by unfold Func.isWrapper; first | (rw [if_pos (by decide +kernel)]; kernel_rfl) | (rw [if_neg (by decide +kernel)]; exact ⟨rfl, rfl⟩))
    (fun os started H enc _ => lifted os started H enc)

theorem proved : Rows.FnExactLetDownCardSaid :=
  Claim7.holds_tied_plain_at .later [] [.sentinel, .sentinel, .sentinel, .sentinel] true (true, "b9ccb414e1aa01a1c5a1507da6df9c86b96ce89f6aca3cb5707d9dfd9c9a5c71") true
    over (fun _ h => by cases h) (by kernel_rfl) (fun _ h => by cases h) fnExactLetDown_row_tie rfl ⟨rfl, rfl⟩ (by kernel_rfl) rfl
    (fun f fn hf hfn => by
      obtain rfl : f = 5 := Option.some.inj ((show Tryd.prog.funcNamed "loop.example/g00658/laws.FnExactLetDown" = some 5 by kernel_rfl).symm.trans hf) |>.symm
      obtain rfl : fn = Tryd.f5 := (Option.some.inj (Tryd.func5.symm.trans hfn)).symm
      exact ⟨by kernel_rfl, fun j t ht => by
        rw [Tryd.params5] at ht
        have hm : t ∈ [60, 61, 61, 2] := by simpa using Array.mem_of_getElem? ht
        have hall : ([60, 61, 61, 2].all fun u => !Tryd.prog.wantsStandIn u) = true := by kernel_rfl
        exact (show Tryd.prog.wantsStandIn t = false by simpa using List.all_eq_true.1 hall t hm)⟩)
    (by kernel_rfl)
end Go.Proofs.YtknifggpodhhdaaDoor.fnExactLetDown
