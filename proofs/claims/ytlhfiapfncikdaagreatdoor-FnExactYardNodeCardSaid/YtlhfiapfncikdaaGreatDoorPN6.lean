import Derived.Test.YtlhfiapfncikdaaGreatDoorPN1
import Derived.Test.YtlhfiapfncikdaaGreatDoorPN4
set_option linter.unusedVariables false
set_option linter.unusedSimpArgs false
set_option maxRecDepth 100000
set_option maxHeartbeats 3200000
namespace Go.Proofs.YtlhfiapfncikdaaGreatDoor
namespace vV
section
open Go.ChangeShapes Go.WideShapes Go.ChangeAt Go.RowKit Go.Joins
section
variable {H:Type}{enc:TypeId×Value→H}{P:Program}
def wJ (P:Program)(ts:List TypeId):Bool:=ts.all fun t=>P.readableRec t&&decide (t<P.types.size)
theorem uq (hl:laidOutB P=true){W W':World}(hb:Below W.heap.size W W'):∀ (ts:List TypeId)(vs:List Value)(ds:List (DataW H))(ps:List MemPlace),wJ P ts=true →
 DataW.TrodAll enc P W 0 (fun _=>true) true ts vs ds ps→DataW.TrodAll enc P W' 0 (fun b=>decide (b<W.heap.size)) true ts vs ds ps
 | [],vs,ds,ps,_,h=>by
  obtain ⟨rfl,rfl,rfl⟩:=trodAll_nil h
  exact trodAll_mk0
 | t::ts,vs,ds,ps,hr,h=>by
  obtain ⟨v,vs',d,ds',p,q,rfl,rfl,rfl,h1,h2⟩:=trodAll_cons h
  have hr':(P.readableRec t=true∧t<P.types.size)∧wJ P ts=true:=by
   unfold wJ at hr
   simpa [List.all_cons,wJ] using hr
  have lt:∀ x∈p,x.block<W.heap.size:=by obtain ⟨m,hm⟩:=h1;exact DataW.trod_lt m _ _ _ hm
  exact trodAll_cons_mk (Below.trod hl hr'.1.1 hr'.1.2 h1 hb lt) (uq hl hb ts vs' ds' q hr'.2 h2)
theorem var_stays {W W':World}(hb:Below W.heap.size W W'){n:String}{g:Nat}{cs:Array Value}(hg:P.globalNamed n=some g)(h:W.var? P n=some cs):W'.var? P n=some cs:=by
 have hlt:g<W.heap.size:=by
  simp only [World.var?,hg,Option.bind_some] at h
  cases hw:W.heap[g]? with
  | none=>rw [hw] at h;simp at h
  | some o=>exact (Array.getElem?_eq_some_iff.1 hw).1
 simp only [World.var?,hg,Option.bind_some] at h ⊢
 rw [hb.block g hlt]
 exact h
def wL (P:Program)(ns:List String):Bool:=ns.all fun n=>match (P.globalNamed n).bind (fun g=>(P.globals[g]?).map (·.type)) with | some t=>P.readableRec t&&decide (t<P.types.size) | none=>false
theorem rF (hl:laidOutB P=true){W W':World}(hb:Below W.heap.size W W'):∀ (ns:List String)(gs:List (DataW H))(ps:List MemPlace),wL P ns=true →
 DataW.TrodVars enc P W (fun _=>true) ns gs ps→DataW.TrodVars enc P W' (fun b=>decide (b<W.heap.size)) ns gs ps
 | [],gs,ps,_,h=>by
  obtain ⟨rfl,rfl⟩:=trodVars_none h
  exact rfl
 | n::ns,[],ps,_,h=>by cases h
 | n::ns,d::gs,ps,hr,h=>by
  obtain ⟨g,t,cs,fuel,p,q,h1,h2,h3,h4,h5,rfl⟩:=h
  have hr':(P.readableRec t=true∧t<P.types.size)∧wL P ns=true:=by
   unfold wL at hr
   rw [List.all_cons,Bool.and_eq_true] at hr
   have h0:=hr.1
   rw [h1,Option.bind_some,h2] at h0
   simp only [Bool.and_eq_true,decide_eq_true_eq] at h0
   exact ⟨h0,hr.2⟩
  have lt:∀ x∈p,x.block<W.heap.size:=DataW.trod_lt fuel _ _ _ h4
  obtain ⟨fuel',h6⟩:=Below.trod hl hr'.1.1 hr'.1.2 (v:=.agg cs) (d:=d) (ps:=p) ⟨fuel,h4⟩ hb lt
  exact ⟨g,t,cs,fuel',p,q,h1,h2,var_stays hb h1 h3,h6,rF hl hb ns gs q hr'.2 h5,rfl⟩
theorem gV {W:World}{sp:Nat→Bool}{n:String}{ns:List String}{gs:List (DataW H)}{ps:List MemPlace}(h:DataW.TrodVars enc P W sp (n::ns) gs ps):∃ d gs' q,gs=d::gs'∧DataW.TrodVars enc P W sp ns gs' q:=by
 cases gs with
 | nil=>cases h
 | cons d gs'=>
  obtain ⟨g,t,cs,fuel,p,q,_,_,_,_,h5,_⟩:=h
  exact ⟨d,gs',q,rfl,h5⟩
theorem VP {f:Func}{s:ChangeSpec}{W W':World}{args:Array Value}{ds gs:List (DataW H)}{before:List MemPlace}{tb:TypeId}(hspec:s.fn H (ds++gs)={ results:=[.lit (.bool true)],args:=ds,vars:=gs })
 (hl:laidOutB P=true) (hr:wJ P f.params.toList=true) (hv:wL P s.vars=true) (hres:f.resultTypes=#[tb]) (adH:P.underlying tb=some .bool)
 (hW:DataW.Whole enc P f.params.toList s.vars false W args.toList ds gs before) (hb:Below W.heap.size W W'):s.post enc P f false true false false W args (.bool true) W':=by
 have hW':=hW
 obtain ⟨p,q,hA,hV,rfl,_,_⟩:=hW
 refine ⟨ds,gs,_,[],p,q,hW',?_,?_,?_,hb.frame _,fun h=>by cases h⟩
 ·rw [hspec,hres]
  exact trodAll_mk1 (shut_bool adH _)
 ·rw [hspec]
  exact uq hl hb _ _ _ _ hr hA
 ·rw [hspec]
  exact rF hl hb _ _ _ hv hV
end
end
end vV
namespace aQ
section
open Go.ChangeShapes Go.WideShapes Go.ChangeAt Go.RowKit Go.Joins Go.Deep bN bO
def zQ {α:Type}(E:Rp α)(t:TypeId):Prop:=∀ {H:Type}(enc:TypeId×Value→H)(W:World)(fuel:Nat)(cs:List Value)(y:DataW H×List MemPlace),DataW.trod enc Tryz.prog W 0 (fun _=>true) true fuel t cs=some y→∃ d,E.rd W W.heap.size d cs
theorem ZO {t:TypeId}(ht:Tryz.prog.underlying t=some (.int .i64)):zQ I t:=fun enc W fuel cs y h=>by
 obtain ⟨n,rfl,_,_⟩:=DataW.trod_int ht h
 exact ⟨n,rfl⟩
theorem IU (b o k:Nat):(⟨b,o,none⟩:Addr).add k=⟨b,o+k,none⟩:=by
 unfold Addr.add;split
 ·rename_i hz;rw [hz];rfl
 ·rfl
theorem pO {α:Type}{E:Rp α}{t e:TypeId}(hE:zQ E e)(hp:0<E.size)(ht:Tryz.prog.underlying t=some (.slice e))(hc:Tryz.prog.cellsOf e=E.size):zQ (Sl E) t:=fun enc W fuel cs y h=>by
 rcases open_slice ht h with ⟨rfl,_⟩ | ⟨x,n,cap,m,k,D,Pl,rfl,_,hl,hm,hmm,_,hi⟩
 ·exact ⟨[],none,0,rfl,bK _,dV _,fun h=>absurd h (jH _)⟩
 ·simp only [if_true] at hmm
  rw [hc] at hi
  have hone:∀ i,i<n→∃ d us,us.length=E.size∧(∀ j,j<E.size→W.cell? ((x.add (i*E.size)).add j)=us[j]?)∧E.rd W W.heap.size d us:=fun i hin=>by
   obtain ⟨us,h1,h2⟩:=hi i (by omega)
   obtain ⟨_,h3,h4⟩:=World.cells?_some h1
   obtain ⟨d,hd⟩:=hE enc W k us _ h2
   exact ⟨d,us,h3,h4,hd⟩
  by_cases hn:n=0
  ·subst hn
   exact ⟨[],some x,cap,rfl,hl,hm,fun h=>absurd h (jH _)⟩
  ·obtain ⟨d0,us0,l0,c0,_⟩:=hone 0 (by omega)
   have e0:(x.add (0*E.size)).add 0=x:=by simp [Addr.add]
   have h0:=c0 0 hp
   rw [e0] at h0
   have hu:∃ u,us0[0]? = some u:=⟨us0[0],List.getElem?_eq_getElem (by omega)⟩
   obtain ⟨u,hu⟩:=hu
   rw [hu] at h0
   have hsp:x.spot=none:=by
    cases hs:x.spot with
    | none=>rfl
    | some s=>simp [World.cell?,hs] at h0;split at h0 <;> simp at h0
   obtain ⟨b,off,sp⟩:=x
   simp only at hsp
   subst hsp
   have hb:=World.block_lt_of_cell? W ⟨b,off,none⟩ h0
   have hall:∀ q,q≤n→∃ L:List α,L.length=q∧∀ i d,L[i]? = some d→∃ us,aR W b (off+i*E.size) us∧E.rd W W.heap.size d us:=by
    intro q
    induction q with
    | zero=>exact fun _=>⟨[],rfl,fun i d hd=>by simp at hd⟩
    | succ q ih=>
     intro hq
     obtain ⟨L,hL,hall⟩:=ih (by omega)
     obtain ⟨d,us,Xn,hcs,hd⟩:=hone q (by omega)
     refine ⟨L++[d],by simp [hL],fun i z hz=>?_⟩
     by_cases hi:i<L.length
     ·rw [List.getElem?_append_left hi] at hz
      exact hall i z hz
     ·rw [List.getElem?_append_right (by omega)] at hz
      have hi2:i=q:=by
       have:=(List.getElem?_eq_some_iff.1 hz).1
       simp at this
       omega
      subst hi2
      simp [hL] at hz
      subst hz
      refine ⟨us,fun j c hj=>?_,hd⟩
      have hj2:=(List.getElem?_eq_some_iff.1 hj).1
      have:=hcs j (by omega)
      rw [IU,IU,hj] at this
      exact this
   obtain ⟨L,hL,hel⟩:=hall n (bK _)
   subst hL
   exact ⟨L,some ⟨b,off,none⟩,cap,rfl,hl,hm,fun _=>⟨b,off,rfl,hb,hel⟩⟩
theorem qJ {H:Type}{enc:TypeId×Value→H}{W:World}{n:Nat}{cs:List Value}{fs:Array Field}{xs:List (DataW H×List MemPlace)}(hf:∀ (i:Nat)(f:Field),fs[i]? = some f→DataW.trod enc Tryz.prog W 0 (fun _=>true) true n f.type ((cs.drop f.offset).take (Tryz.prog.cellsOf f.type))=xs[i]?)
 (i:Nat) (t o k:Nat) (h:fs[i]?.map (fun f=>(f.type,f.offset))=some (t,o)) (hc:Tryz.prog.cellsOf t=k):DataW.trod enc Tryz.prog W 0 (fun _=>true) true n t ((cs.drop o).take k)=xs[i]?:=by
 cases e:fs[i]? with
 | none=>rw [e] at h;cases h
 | some f=>
  rw [e] at h
  simp only [Option.map_some,Option.some.injEq,Prod.mk.injEq] at h
  obtain ⟨rfl,rfl⟩:=h
  subst hc
  exact hf i f e
theorem ZQ {α:Type}{E:Rp α}{t:TypeId}{fs:Array Field}(hO:zQ E t)(ht:Tryz.prog.underlying t=some (.struct fs)){H:Type}{enc:TypeId×Value→H}{W:World}{base:Nat}{v:Value}{d:DataW H}{p:List MemPlace}(o:Value.okWide Tryz.prog W .any base t v)
 (h:DataW.Trod enc Tryz.prog W 0 (fun _=>true) true t v d p):∃ (x:α) (cs:List Value),v=.agg cs.toArray∧E.rd W W.heap.size x cs:=by
 obtain ⟨cs,rfl,_⟩:=okWide_struct ht o
 obtain ⟨fuel,hf⟩:=h
 obtain ⟨x,hx⟩:=hO enc W fuel _ _ hf
 exact ⟨x,cs.toList,rfl,hx⟩
theorem fO:Tryz.prog.cellsOf 2=1:=by kernel_rfl
theorem ab7:Tryz.prog.cellsOf 70=1:=by kernel_rfl
theorem nQ:Tryz.prog.cellsOf 33=2:=by kernel_rfl
theorem fM:zQ I 2:=ZO Tryz.underlying2
theorem VR:zQ (Sl I) 70:=pO fM (by decide) Tryz.underlying70 fO
theorem kD:zQ av 33:=fun enc W fuel cs y h=>by
 obtain ⟨xs,n,_,_,hl,hlen,hf⟩:=DataW.trod_struct Tryz.underlying33 h
 rw [nQ] at hl
 match cs,hl with
 | [c0,c1],_=>
  have e2:xs.length=2:=hlen
  match xs,e2 with
  | [y0,y1],_=>
   have g0:=qJ hf 0 2 0 1 rfl fO
   have g1:=qJ hf 1 2 1 1 rfl fO
   obtain ⟨d0,h0⟩:=fM enc W n [c0] y0 g0
   obtain ⟨d1,h1⟩:=fM enc W n [c1] y1 g1
   exact ⟨(d0,d1),[c0],[c1],rfl,h0,h1⟩
theorem Xc:Tryz.prog.cellsOf 171=1:=by kernel_rfl
theorem RP:Tryz.prog.cellsOf 22=1:=by kernel_rfl
theorem Lf:zQ (Sl av) 171:=pO kD (by decide) Tryz.underlying171 nQ
theorem Jc:zQ (Sl (Sl av)) 22:=pO Lf (by decide) Tryz.underlying22 Xc
end
section
open Go.RowKit bN bO
theorem acj:(aT).size=5:=rfl
theorem Lu {L:List (bA)}{a:Option Addr}{cap:Nat}{W:World}{S:Nat→Prop}{k:Int}(h0:0≤k)(h1:k+(bD (aT).cm L:Nat)≤4611686018427387904)(hS:∀ i,S i→i<W.heap.size)(h:bH aT W S L a cap):Calls Tryz.prog 88 #[.slice a L.length cap,.int .i64 k] W (jD aT S L a cap k W):=by
 have hcap:=h.1
 have hmax:=h.2.1
 have hn:L.length≤9223372036854775807:=by have h2:=h.2.1;unfold maxLen at h2;omega
 have H:=ak h
 have HCAP:=ak hcap
 have qP:=ak hmax
 clear h hcap hmax
 rcases Nat.eq_zero_or_pos L.length with hz | hpos
 ·have HR:=ak (jD.none_ (k:=k) H.out hz)
  have HZ:=ak hz
  rw [hz]
  clear hz
  go_enter Tryz.func88,Tryz.ntmps88
  go_wp2
  go_loopw [5,1] (fun i q wr=>i=.int .i64 0∧q=.int .i64 k∧wr=W) (fun i _ _=>0)
  case atStart=>exact ⟨rfl,rfl,rfl⟩
  case round=>
   obtain ⟨rfl,rfl,rfl⟩:=hrel
   go_wp2
   go_ret
   exact HR.out
 ·obtain ⟨g,Sf,rfl,hrow⟩:=H.out.row hpos
  have HM:=ak (xG.start (k:=k) hrow)
  clear hrow
  go_enter Tryz.func88,Tryz.ntmps88
  go_wp2
  go_loopw [5,1] (fun i q wr=>∃ j:Nat,j≤L.length∧i=.int .i64 j∧∃ (M:List (bA)) (z:Int),q=.int .i64 z∧xG aT W wr S L g Sf k z j M) (fun i _ _=>L.length-(intOf i).toNat)
  case atStart=>exact ⟨0,dV _,rfl,_,_,rfl,HM.out⟩
  case round=>
   obtain ⟨j,hj,rfl,M,z,rfl,hM⟩:=hrel
   have je:=ak hM
   have aj:∀ i,S i→i<wr.heap.size:=fun i hi=>bV (hS i hi) hM.off.size
   have Aa:=ak aj
   by_cases hlt:j<L.length
   ·obtain ⟨⟨⟨x0,x1⟩,⟨x2,x3⟩,x4⟩,hx⟩:=aM hlt
    have HX:=ak hx
    have hcm:=fB (aT).cm hx
    have hle:=dh (aT).cm L (j+1)
    have qL:=hM.num
    obtain ⟨us,hu,hr⟩:=hM.el hx
    obtain rfl:=Hl hr
    have hgl:g<wr.heap.size:=aj g hM.row.own
    have hi0:(0:Int)≤(j:Int):=eu _
    have hi1:(j:Int)<(L.length:Int):=by omega
    have hz0:0≤z:=by omega
    obtain ⟨e0,e1,e2,e3,e4⟩:=Tj (a:=j*5) hu rfl
    have s0:=hM.row.soft (j*5)
    have s1:=hM.row.soft (j*5+1)
    have s2:=hM.row.soft (j*5+2)
    have s3:=hM.row.soft (j*5+3)
    have s4:=hM.row.soft (j*5+4)
    have hcx:aT.cm ((x0,x1),(x2,x3),x4)=5:=by first | (simp only [aT,av,av,Pr,I,atom,Sl];done) | (simp only [aT,av,av,Pr,I,atom,Sl];omega)
    rw [hcm,hcx] at hle
    have hb1:z+((5:Nat):Int)≤4611686018427387904:=by omega
    have hne:¬Sf j g:=fun hg=>(je.out.row.sub j g hg).2 rfl
    have Pm:=ak (ni.refl wr g (j*5) ((j+1)*5) (Sf j))
    have J7:=ak (Off.refl S wr)
    clear hM aj hx hu hcm hle qL
    have hc:=dn g [.int .i64 (z),.int .i64 (z+1),.int .i64 (z+1+1),.int .i64 (z+1+1+1),.int .i64 (z+1+1+1+1)] wr (j*5) (fun p hp=>by
     match p,hp with
     | 0,_=>exact ⟨_,by simpa [Nat.add_assoc] using e0⟩
     | 1,_=>exact ⟨_,by simpa [Nat.add_assoc] using e1⟩
     | 2,_=>exact ⟨_,by simpa [Nat.add_assoc] using e2⟩
     | 3,_=>exact ⟨_,by simpa [Nat.add_assoc] using e3⟩
     | 4,_=>exact ⟨_,by simpa [Nat.add_assoc] using e4⟩
     | _+5,hp=>simp at hp;omega)
    have d0:(putCells wr g (j*5) [.int .i64 (z),.int .i64 (z+1),.int .i64 (z+1+1),.int .i64 (z+1+1+1),.int .i64 (z+1+1+1+1)]).cell? ⟨g,j*5,none⟩=some (.int .i64 (z)):=by simpa [Nat.add_assoc] using hc 0 _ rfl
    have d1:(putCells wr g (j*5) [.int .i64 (z),.int .i64 (z+1),.int .i64 (z+1+1),.int .i64 (z+1+1+1),.int .i64 (z+1+1+1+1)]).cell? ⟨g,j*5+1,none⟩=some (.int .i64 (z+1)):=by simpa [Nat.add_assoc] using hc 1 _ rfl
    have d2:(putCells wr g (j*5) [.int .i64 (z),.int .i64 (z+1),.int .i64 (z+1+1),.int .i64 (z+1+1+1),.int .i64 (z+1+1+1+1)]).cell? ⟨g,j*5+2,none⟩=some (.int .i64 (z+1+1)):=by simpa [Nat.add_assoc] using hc 2 _ rfl
    have d3:(putCells wr g (j*5) [.int .i64 (z),.int .i64 (z+1),.int .i64 (z+1+1),.int .i64 (z+1+1+1),.int .i64 (z+1+1+1+1)]).cell? ⟨g,j*5+3,none⟩=some (.int .i64 (z+1+1+1)):=by simpa [Nat.add_assoc] using hc 3 _ rfl
    have d4:(putCells wr g (j*5) [.int .i64 (z),.int .i64 (z+1),.int .i64 (z+1+1),.int .i64 (z+1+1+1),.int .i64 (z+1+1+1+1)]).cell? ⟨g,j*5+4,none⟩=some (.int .i64 (z+1+1+1+1)):=by simpa [Nat.add_assoc] using hc 4 _ rfl
    have t0:(putCells wr g (j*5) [.int .i64 (z),.int .i64 (z+1),.int .i64 (z+1+1),.int .i64 (z+1+1+1),.int .i64 (z+1+1+1+1)]).frozen? ⟨g,j*5,none⟩=false:=(aH g _ _ wr _).trans s0
    have t1:(putCells wr g (j*5) [.int .i64 (z),.int .i64 (z+1),.int .i64 (z+1+1),.int .i64 (z+1+1+1),.int .i64 (z+1+1+1+1)]).frozen? ⟨g,j*5+1,none⟩=false:=(aH g _ _ wr _).trans s1
    have t2:(putCells wr g (j*5) [.int .i64 (z),.int .i64 (z+1),.int .i64 (z+1+1),.int .i64 (z+1+1+1),.int .i64 (z+1+1+1+1)]).frozen? ⟨g,j*5+2,none⟩=false:=(aH g _ _ wr _).trans s2
    have t3:(putCells wr g (j*5) [.int .i64 (z),.int .i64 (z+1),.int .i64 (z+1+1),.int .i64 (z+1+1+1),.int .i64 (z+1+1+1+1)]).frozen? ⟨g,j*5+3,none⟩=false:=(aH g _ _ wr _).trans s3
    have t4:(putCells wr g (j*5) [.int .i64 (z),.int .i64 (z+1),.int .i64 (z+1+1),.int .i64 (z+1+1+1),.int .i64 (z+1+1+1+1)]).frozen? ⟨g,j*5+4,none⟩=false:=(aH g _ _ wr _).trans s4
    have J4:=ak (Pm.out.trans (ni.put wr (Sf j) (g:=g) (o:=j*5) (cs:=[.int .i64 (z),.int .i64 (z+1),.int .i64 (z+1+1),.int .i64 (z+1+1+1),.int .i64 (z+1+1+1+1)]) ⟨by omega,by first | (simp;done) | (simp;omega)⟩))
    have Ad:=ak (J7.out.trans ((dO g [.int .i64 (z),.int .i64 (z+1),.int .i64 (z+1+1),.int .i64 (z+1+1+1),.int .i64 (z+1+1+1+1)] wr (j*5)).more (fun x e=>by rw [e];exact je.out.row.own)))
    clear hc
    have hcf:aR (putCells wr g (j*5) [.int .i64 (z),.int .i64 (z+1),.int .i64 (z+1+1),.int .i64 (z+1+1+1),.int .i64 (z+1+1+1+1)]) g (j*5) [.int .i64 (z),.int .i64 (z+1),.int .i64 (z+1+1),.int .i64 (z+1+1+1),.int .i64 (z+1+1+1+1)]:=aR.cons.2 ⟨d0,aR.cons.2 ⟨d1,aR.cons.2 ⟨d2,aR.cons.2 ⟨d3,aR.cons.2 ⟨d4,aR.nil⟩⟩⟩⟩⟩
    have iY:=ak (je.out.step aG (w':=(putCells wr g (j*5) [.int .i64 (z),.int .i64 (z+1),.int .i64 (z+1+1),.int .i64 (z+1+1+1),.int .i64 (z+1+1+1+1)])) (y:=((z,z+1),(z+1+1,z+1+1+1),z+1+1+1+1)) (q':=z+1+1+1+1+1) Aa.out HX.out J4.out Ad.out hcf (yt) (Wi) (by rw [hcx];omega))
    clear d0 t0 d1 t1 d2 t2 d3 t3 d4 t4
    have hzb:0≤z+1+1+1+1+1∧z+1+1+1+1+1≤4611686018427387904:=by omega
    clear hcf hcx
    go_wp2
    go_roundw
    case rel=>exact ⟨j+1,by omega,by go_num,_,_,rfl,by first | exact iY.out | simpa [putCells,Nat.add_assoc,Int.add_assoc] using iY.out⟩
    case measure=>simp [intOf];omega
   ·obtain rfl:j=L.length:=by omega
    have HR:=ak (je.out.done HCAP.out qP.out)
    clear hM aj
    go_wp2
    go_ret
    exact HR.out
theorem abI:(aN).size=3:=rfl
theorem Je {L:List (aX)}{a:Option Addr}{cap:Nat}{W:World}{S:Nat→Prop}{k:Int}(h0:0≤k)(h1:k+(bD (aN).cm L:Nat)≤4611686018427387904)(hS:∀ i,S i→i<W.heap.size)(h:bH aN W S L a cap):Calls Tryz.prog 89 #[.slice a L.length cap,.int .i64 k] W (jD aN S L a cap k W):=by
 have hcap:=h.1
 have hmax:=h.2.1
 have hn:L.length≤9223372036854775807:=by have h2:=h.2.1;unfold maxLen at h2;omega
 have H:=ak h
 have HCAP:=ak hcap
 have qP:=ak hmax
 clear h hcap hmax
 rcases Nat.eq_zero_or_pos L.length with hz | hpos
 ·have HR:=ak (jD.none_ (k:=k) H.out hz)
  have HZ:=ak hz
  rw [hz]
  clear hz
  go_enter Tryz.func89,Tryz.ntmps89
  go_wp2
  go_loopw [5,1] (fun i q wr=>i=.int .i64 0∧q=.int .i64 k∧wr=W) (fun i _ _=>0)
  case atStart=>exact ⟨rfl,rfl,rfl⟩
  case round=>
   obtain ⟨rfl,rfl,rfl⟩:=hrel
   go_wp2
   go_ret
   exact HR.out
 ·obtain ⟨g,Sf,rfl,hrow⟩:=H.out.row hpos
  have HM:=ak (xG.start (k:=k) hrow)
  clear hrow
  go_enter Tryz.func89,Tryz.ntmps89
  go_wp2
  go_loopw [5,1] (fun i q wr=>∃ j:Nat,j≤L.length∧i=.int .i64 j∧∃ (M:List (aX)) (z:Int),q=.int .i64 z∧xG aN W wr S L g Sf k z j M) (fun i _ _=>L.length-(intOf i).toNat)
  case atStart=>exact ⟨0,dV _,rfl,_,_,rfl,HM.out⟩
  case round=>
   obtain ⟨j,hj,rfl,M,z,rfl,hM⟩:=hrel
   have je:=ak hM
   have aj:∀ i,S i→i<wr.heap.size:=fun i hi=>bV (hS i hi) hM.off.size
   have Aa:=ak aj
   by_cases hlt:j<L.length
   ·obtain ⟨⟨⟨x0,x1⟩,x2⟩,hx⟩:=aM hlt
    have HX:=ak hx
    have hcm:=fB (aN).cm hx
    have hle:=dh (aN).cm L (j+1)
    have qL:=hM.num
    obtain ⟨us,hu,hr⟩:=hM.el hx
    obtain rfl:=DW hr
    have hgl:g<wr.heap.size:=aj g hM.row.own
    have hi0:(0:Int)≤(j:Int):=eu _
    have hi1:(j:Int)<(L.length:Int):=by omega
    have hz0:0≤z:=by omega
    obtain ⟨e0,e1,e2⟩:=Ko (a:=j*3) hu rfl
    have s0:=hM.row.soft (j*3)
    have s1:=hM.row.soft (j*3+1)
    have s2:=hM.row.soft (j*3+2)
    have hcx:aN.cm ((x0,x1),x2)=3:=by first | (simp only [aN,av,Pr,I,atom,Sl];done) | (simp only [aN,av,Pr,I,atom,Sl];omega)
    rw [hcm,hcx] at hle
    have hb1:z+((3:Nat):Int)≤4611686018427387904:=by omega
    have hne:¬Sf j g:=fun hg=>(je.out.row.sub j g hg).2 rfl
    have Pm:=ak (ni.refl wr g (j*3) ((j+1)*3) (Sf j))
    have J7:=ak (Off.refl S wr)
    clear hM aj hx hu hcm hle qL
    have hc:=dn g [.int .i64 (z),.int .i64 (z+1),.int .i64 (z+1+1)] wr (j*3) (fun p hp=>by
     match p,hp with
     | 0,_=>exact ⟨_,by simpa [Nat.add_assoc] using e0⟩
     | 1,_=>exact ⟨_,by simpa [Nat.add_assoc] using e1⟩
     | 2,_=>exact ⟨_,by simpa [Nat.add_assoc] using e2⟩
     | _+3,hp=>simp at hp;omega)
    have d0:(putCells wr g (j*3) [.int .i64 (z),.int .i64 (z+1),.int .i64 (z+1+1)]).cell? ⟨g,j*3,none⟩=some (.int .i64 (z)):=by simpa [Nat.add_assoc] using hc 0 _ rfl
    have d1:(putCells wr g (j*3) [.int .i64 (z),.int .i64 (z+1),.int .i64 (z+1+1)]).cell? ⟨g,j*3+1,none⟩=some (.int .i64 (z+1)):=by simpa [Nat.add_assoc] using hc 1 _ rfl
    have d2:(putCells wr g (j*3) [.int .i64 (z),.int .i64 (z+1),.int .i64 (z+1+1)]).cell? ⟨g,j*3+2,none⟩=some (.int .i64 (z+1+1)):=by simpa [Nat.add_assoc] using hc 2 _ rfl
    have t0:(putCells wr g (j*3) [.int .i64 (z),.int .i64 (z+1),.int .i64 (z+1+1)]).frozen? ⟨g,j*3,none⟩=false:=(aH g _ _ wr _).trans s0
    have t1:(putCells wr g (j*3) [.int .i64 (z),.int .i64 (z+1),.int .i64 (z+1+1)]).frozen? ⟨g,j*3+1,none⟩=false:=(aH g _ _ wr _).trans s1
    have t2:(putCells wr g (j*3) [.int .i64 (z),.int .i64 (z+1),.int .i64 (z+1+1)]).frozen? ⟨g,j*3+2,none⟩=false:=(aH g _ _ wr _).trans s2
    have J4:=ak (Pm.out.trans (ni.put wr (Sf j) (g:=g) (o:=j*3) (cs:=[.int .i64 (z),.int .i64 (z+1),.int .i64 (z+1+1)]) ⟨by omega,by first | (simp;done) | (simp;omega)⟩))
    have Ad:=ak (J7.out.trans ((dO g [.int .i64 (z),.int .i64 (z+1),.int .i64 (z+1+1)] wr (j*3)).more (fun x e=>by rw [e];exact je.out.row.own)))
    clear hc
    have hcf:aR (putCells wr g (j*3) [.int .i64 (z),.int .i64 (z+1),.int .i64 (z+1+1)]) g (j*3) [.int .i64 (z),.int .i64 (z+1),.int .i64 (z+1+1)]:=aR.cons.2 ⟨d0,aR.cons.2 ⟨d1,aR.cons.2 ⟨d2,aR.nil⟩⟩⟩
    have iY:=ak (je.out.step aC (w':=(putCells wr g (j*3) [.int .i64 (z),.int .i64 (z+1),.int .i64 (z+1+1)])) (y:=((z,z+1),z+1+1)) (q':=z+1+1+1) Aa.out HX.out J4.out Ad.out hcf (vo) (Rc) (by rw [hcx];omega))
    clear d0 t0 d1 t1 d2 t2
    have hzb:0≤z+1+1+1∧z+1+1+1≤4611686018427387904:=by omega
    clear hcf hcx
    go_wp2
    go_roundw
    case rel=>exact ⟨j+1,by omega,by go_num,_,_,rfl,by first | exact iY.out | simpa [putCells,Nat.add_assoc,Int.add_assoc] using iY.out⟩
    case measure=>simp [intOf];omega
   ·obtain rfl:j=L.length:=by omega
    have HR:=ak (je.out.done HCAP.out qP.out)
    clear hM aj
    go_wp2
    go_ret
    exact HR.out
def FK (L0:List (List (ay)))(L1:List (bA))(L2:List (aX))(x3:Int)(a0:Option Addr)(c0:Nat)(a1:Option Addr)(c1:Nat)(a2:Option Addr)(c2:Nat)(T0:Nat→Prop)(T1:Nat→Prop)(T2:Nat→Prop)(k:Int)(W:World)(e:Ending)(w':World):Prop:=∃ z0 z1 z2:Int,∃ (y0:List (List (ay)))(y1:List (bA))(y2:List (aX)),e=.returned (.int .i64 z2)∧(y0.length=L0.length∧jC (Sl av) y0 k z0∧z0=k+(bD ((Sl av)).cm L0:Nat)∧bH (Sl av) w' T0 y0 a0 c0)∧(y1.length=L1.length∧jC aT y1 z0 z1∧z1=z0+(bD (aT).cm L1:Nat)∧bH aT w' T1 y1 a1 c1)∧(y2.length=L2.length∧jC aN y2 z1 z2∧z2=z1+(bD (aN).cm L2:Nat)∧bH aN w' T2 y2 a2 c2)∧Off (fun q=>T0 q∨T1 q∨T2 q) W w'
theorem Jh {L0:List (List (ay))}{L1:List (bA)}{L2:List (aX)}{x3:Int}{a0:Option Addr}{c0:Nat}{a1:Option Addr}{c1:Nat}{a2:Option Addr}{c2:Nat}{W:World}{T0:Nat→Prop}{T1:Nat→Prop}{T2:Nat→Prop}{k:Int}(h0:0≤k)(h1:k+(bD ((Sl av)).cm L0:Nat)+(bD (aT).cm L1:Nat)+(bD (aN).cm L2:Nat)≤4611686018427387904)(hS0:∀ q,T0 q→q<W.heap.size)(hS1:∀ q,T1 q→q<W.heap.size)(hS2:∀ q,T2 q→q<W.heap.size)(jO:∀ q,T0 q→T1 q→False)(jN:∀ q,T0 q→T2 q→False)(jM:∀ q,T1 q→T2 q→False)(dP:bH (Sl av) W T0 L0 a0 c0)(gN:bH aT W T1 L1 a1 c1)(gM:bH aN W T2 L2 a2 c2):Calls Tryz.prog 43 #[.agg #[.slice a0 L0.length c0,.slice a1 L1.length c1,.slice a2 L2.length c2,.int .i64 x3],.int .i64 k] W (FK L0 L1 L2 x3 a0 c0 a1 c1 a2 c2 T0 T1 T2 k W):=by
 have GR:=ak (show Off (fun q=>T0 q∨T1 q∨T2 q) W (W.alloc (.cells #[.slice a0 L0.length c0,.slice a1 L1.length c1,.slice a2 L2.length c2,.int .i64 x3] 39)) from (Off.refl _ _).alloc _)
 have hP:=aO.new W 39 #[.slice a0 L0.length c0,.slice a1 L1.length c1,.slice a2 L2.length c2,.int .i64 x3]
 have gY:=ak hP
 have hz0:W.heap.size<(W.alloc (.cells #[.slice a0 L0.length c0,.slice a1 L1.length c1,.slice a2 L2.length c2,.int .i64 x3] 39)).heap.size:=by simp
 clear hP
 have fI:=ak (bH.keep (aZ au) (W':=W.alloc (.cells #[.slice a0 L0.length c0,.slice a1 L1.length c1,.slice a2 L2.length c2,.int .i64 x3] 39)) dP (fun q hq=>Below.heap_alloc _ _ _ (hS0 q hq)))
 have zR:=ak hS0
 have pF:=ak (bH.keep aG (W':=W.alloc (.cells #[.slice a0 L0.length c0,.slice a1 L1.length c1,.slice a2 L2.length c2,.int .i64 x3] 39)) gN (fun q hq=>Below.heap_alloc _ _ _ (hS1 q hq)))
 have zn:=ak hS1
 have pE:=ak (bH.keep aC (W':=W.alloc (.cells #[.slice a0 L0.length c0,.slice a1 L1.length c1,.slice a2 L2.length c2,.int .i64 x3] 39)) gM (fun q hq=>Below.heap_alloc _ _ _ (hS2 q hq)))
 have HS2:=ak hS2
 have DF:=ak jO
 have DC:=ak jN
 have Dz:=ak jM
 clear dP gN gM hS0 hS1 hS2 jO jN jM
 go_enter Tryz.func43,Tryz.ntmps43
 have hbz:0≤k∧k+(bD ((Sl av)).cm L0:Nat)≤4611686018427387904:=by omega
 go_wp2_with fail
 refine (Fx (W:=W.alloc (.cells #[.slice a0 L0.length c0,.slice a1 L1.length c1,.slice a2 L2.length c2,.int .i64 x3] 39)) hbz.1 hbz.2 (fun q hq=>iF (zR.out q hq) hz0) fI.out).mono ?_
 intro e w1 h
 obtain ⟨y0,z0,rfl,hyl,hmm,hzz,how,hoff⟩:=iO h
 have cZ:=ak (aO.off gY.out hoff hz0 (fun hg=>jH _ (zR.out _ hg)))
 have UE:=ak (GR.out.trans (hoff.more (fun q hq=>Or.inl hq)))
 have hz1:W.heap.size<w1.heap.size:=bV hz0 hoff.size
 have pF:=ak (pF.out.keep aG (fun q hq=>hoff.block q (iF (zn.out q hq) hz0) (fun hi=>DF.out q hi hq)))
 have pE:=ak (pE.out.keep aC (fun q hq=>hoff.block q (iF (HS2.out q hq) hz0) (fun hi=>DC.out q hi hq)))
 have fI:=ak how
 have Kt:=ak hmm
 have Kr:=ak hyl
 have vO:=ak hzz
 have hzn0:0≤z0∧z0≤4611686018427387904:=by omega
 clear h hyl hmm how hoff hzz hbz
 obtain ⟨vK,qK,ou⟩:=cZ.out.pz rfl
 have hbz:0≤z0∧z0+(bD (aT).cm L1:Nat)≤4611686018427387904:=by have q0:=vO.out;omega
 go_wp2_with fail
 refine (Lu (W:=w1) hbz.1 hbz.2 (fun q hq=>iF (zn.out q hq) hz1) pF.out).mono ?_
 intro e w2 h
 obtain ⟨y1,z1,rfl,hyl,hmm,hzz,how,hoff⟩:=iO h
 have iD:=ak (aO.off cZ.out hoff hz1 (fun hg=>jH _ (zn.out _ hg)))
 have aee:=ak (UE.out.trans (hoff.more (fun q hq=>Or.inr (Or.inl hq))))
 have hz2:W.heap.size<w2.heap.size:=bV hz1 hoff.size
 have fI:=ak (fI.out.keep (aZ au) (fun q hq=>hoff.block q (iF (zR.out q hq) hz1) (fun hi=>DF.out q hq hi)))
 have pE:=ak (pE.out.keep aC (fun q hq=>hoff.block q (iF (HS2.out q hq) hz1) (fun hi=>Dz.out q hi hq)))
 have pF:=ak how
 have HMM1:=ak hmm
 have HYL1:=ak hyl
 have Kq:=ak hzz
 have hzn1:0≤z1∧z1≤4611686018427387904:=by omega
 clear h hyl hmm how hoff hzz hbz
 obtain ⟨CP,CO,zG⟩:=iD.out.pz rfl
 have hbz:0≤z1∧z1+(bD (aN).cm L2:Nat)≤4611686018427387904:=by have q0:=vO.out;have q1:=Kq.out;omega
 go_wp2_with fail
 refine (Je (W:=w2) hbz.1 hbz.2 (fun q hq=>iF (HS2.out q hq) hz2) pE.out).mono ?_
 intro e w3 h
 obtain ⟨y2,z2,rfl,hyl,hmm,hzz,how,hoff⟩:=iO h
 have iG:=ak (aO.off iD.out hoff hz2 (fun hg=>jH _ (HS2.out _ hg)))
 have UD:=ak (aee.out.trans (hoff.more (fun q hq=>Or.inr (Or.inr (hq)))))
 have hz3:W.heap.size<w3.heap.size:=bV hz2 hoff.size
 have fI:=ak (fI.out.keep (aZ au) (fun q hq=>hoff.block q (iF (zR.out q hq) hz2) (fun hi=>DC.out q hq hi)))
 have pF:=ak (pF.out.keep aG (fun q hq=>hoff.block q (iF (zn.out q hq) hz2) (fun hi=>Dz.out q hq hi)))
 have pE:=ak how
 have HMM2:=ak hmm
 have HYL2:=ak hyl
 have Qh:=ak hzz
 have hzn2:0≤z2∧z2≤4611686018427387904:=by omega
 clear h hyl hmm how hoff hzz hbz
 obtain ⟨EC,EB,EA⟩:=iG.out.pz rfl
 go_wp2
 go_ret
 exact ⟨z0,z1,z2,y0,y1,y2,rfl,⟨Kr.out,Kt.out,vO.out,fI.out⟩,⟨HYL1.out,HMM1.out,Kq.out,pF.out⟩,⟨HYL2.out,HMM2.out,Qh.out,pE.out⟩,UD.out⟩
theorem KW:(aT).size=5:=rfl
theorem LW {L:List (bA)}{a:Option Addr}{cap:Nat}{W:World}{k k':Int}(h0:0≤k)(h1:k'≤4611686018427387904)(hm:jC aT L k k')(h:aJ aT W W.heap.size L a cap):Calls Tryz.prog 153 #[.slice a L.length cap,.int .i64 k] W (nN k' W):=by
 have hn:L.length≤9223372036854775807:=by have h1:=h.1;have h2:=h.2.1;unfold maxLen at h2;omega
 have H:=ak h
 have HM:=ak hm
 clear h hm
 go_enter Tryz.func153,Tryz.ntmps153
 go_wp2
 go_loopw [5,1] (fun i q wr=>∃ j:Nat,j≤L.length∧i=.int .i64 j∧(∃ z:Int,q=.int .i64 z∧0≤z∧jC aT (L.drop j) z k')∧Below W.heap.size W wr) (fun i _ _=>L.length-(intOf i).toNat)
 case atStart=>exact ⟨0,dV _,rfl,⟨k,rfl,h0,HM.out⟩,aW _ _⟩
 case round=>
  obtain ⟨j,hj,rfl,⟨z,rfl,hz,hmz⟩,hB⟩:=hrel
  have HB:=ak hB
  have hsz:=hB.size
  by_cases hlt:j<L.length
  ·obtain ⟨⟨⟨x0,x1⟩,⟨x2,x3⟩,x4⟩,hx⟩:=aM hlt
   obtain ⟨k1,hxm,hmn⟩:=jX hx hmz
   have hzb:=eG o7 hmn
   have hxb:=o7 _ _ _ hxm
   obtain ⟨g,o,us,rfl,hg,hu,hr⟩:=(H.out.below aG hB).at_ hx
   have FZ:=ak hmn
   have hi0:(0:Int)≤(j:Int):=eu _
   have hi1:(j:Int)<(L.length:Int):=by omega
   obtain rfl:=lC hr
   obtain ⟨rfl,rfl,rfl,rfl,rfl,hk1⟩:=Wo hxm
   have e0:=cO hu 0 rfl
   have e1:=cO hu 1 rfl
   have e2:=cO hu 2 rfl
   have e3:=cO hu 3 rfl
   have e4:=cO hu 4 rfl
   simp only [KW] at e0 e1 e2 e3 e4
   simp only [←Nat.add_assoc,Nat.add_zero] at e0 e1 e2 e3 e4
   have hfin:k1≤4611686018427387904:=by omega
   have J6:=ak hk1
   clear hB hx hu hmz hmn hxm
   have HB2:=ak HB.out
   go_wp2
   go_roundw
   case rel=>exact ⟨j+1,by omega,by go_num,⟨_,rfl,by omega,by rw [←J6.out];exact FZ.out⟩,HB2.out⟩
   case measure=>simp [intOf];omega
  ·obtain rfl:j=L.length:=by omega
   have HE:=ak (lD hmz)
   clear hmz hB
   go_wp2
   go_ret
   exact ⟨by rw [HE.out];rfl,HB.out⟩
theorem I7:(aN).size=3:=rfl
theorem Jm {L:List (aX)}{a:Option Addr}{cap:Nat}{W:World}{k k':Int}(h0:0≤k)(h1:k'≤4611686018427387904)(hm:jC aN L k k')(h:aJ aN W W.heap.size L a cap):Calls Tryz.prog 154 #[.slice a L.length cap,.int .i64 k] W (nN k' W):=by
 have hn:L.length≤9223372036854775807:=by have h1:=h.1;have h2:=h.2.1;unfold maxLen at h2;omega
 have H:=ak h
 have HM:=ak hm
 clear h hm
 go_enter Tryz.func154,Tryz.ntmps154
 go_wp2
 go_loopw [5,1] (fun i q wr=>∃ j:Nat,j≤L.length∧i=.int .i64 j∧(∃ z:Int,q=.int .i64 z∧0≤z∧jC aN (L.drop j) z k')∧Below W.heap.size W wr) (fun i _ _=>L.length-(intOf i).toNat)
 case atStart=>exact ⟨0,dV _,rfl,⟨k,rfl,h0,HM.out⟩,aW _ _⟩
 case round=>
  obtain ⟨j,hj,rfl,⟨z,rfl,hz,hmz⟩,hB⟩:=hrel
  have HB:=ak hB
  have hsz:=hB.size
  by_cases hlt:j<L.length
  ·obtain ⟨⟨⟨x0,x1⟩,x2⟩,hx⟩:=aM hlt
   obtain ⟨k1,hxm,hmn⟩:=jX hx hmz
   have hzb:=eG mW hmn
   have hxb:=mW _ _ _ hxm
   obtain ⟨g,o,us,rfl,hg,hu,hr⟩:=(H.out.below aC hB).at_ hx
   have FZ:=ak hmn
   have hi0:(0:Int)≤(j:Int):=eu _
   have hi1:(j:Int)<(L.length:Int):=by omega
   obtain rfl:=jm hr
   obtain ⟨rfl,rfl,rfl,hk1⟩:=Rh hxm
   have e0:=cO hu 0 rfl
   have e1:=cO hu 1 rfl
   have e2:=cO hu 2 rfl
   simp only [I7] at e0 e1 e2
   simp only [←Nat.add_assoc,Nat.add_zero] at e0 e1 e2
   have hfin:k1≤4611686018427387904:=by omega
   have J6:=ak hk1
   clear hB hx hu hmz hmn hxm
   have HB2:=ak HB.out
   go_wp2
   go_roundw
   case rel=>exact ⟨j+1,by omega,by go_num,⟨_,rfl,by omega,by rw [←J6.out];exact FZ.out⟩,HB2.out⟩
   case measure=>simp [intOf];omega
  ·obtain rfl:j=L.length:=by omega
   have HE:=ak (lD hmz)
   clear hmz hB
   go_wp2
   go_ret
   exact ⟨by rw [HE.out];rfl,HB.out⟩
theorem Jq {L0:List (List (ay))}{L1:List (bA)}{L2:List (aX)}{x3:Int}{a0:Option Addr}{c0:Nat}{a1:Option Addr}{c1:Nat}{a2:Option Addr}{c2:Nat}{W:World}{k:Int}{z0:Int}{z1:Int}{z2:Int}(h0:0≤k)(h1:z2≤4611686018427387904)(hm0:jC (Sl av) L0 k z0)(hm1:jC aT L1 z0 z1)(hm2:jC aN L2 z1 z2)(dP:aJ (Sl av) W W.heap.size L0 a0 c0)(gN:aJ aT W W.heap.size L1 a1 c1)(gM:aJ aN W W.heap.size L2 a2 c2):Calls Tryz.prog 93 #[.agg #[.slice a0 L0.length c0,.slice a1 L1.length c1,.slice a2 L2.length c2,.int .i64 x3],.int .i64 k] W (nN z2 W):=by
 have jJ:=ak dP
 have pJ:=ak gN
 have pI:=ak gM
 have HM0:=ak hm0
 have hl0:=eG (AU eY) hm0
 have Cz:=ak hm1
 have hl1:=eG o7 hm1
 have je:=ak hm2
 have hl2:=eG mW hm2
 clear dP gN gM hm0 hm1 hm2
 have HB0:=ak (show Below W.heap.size W (W.alloc (.cells #[.slice a0 L0.length c0,.slice a1 L1.length c1,.slice a2 L2.length c2,.int .i64 x3] 39)) from (aW _ _).alloc (bK _) _)
 have hP:=aO.new W 39 #[.slice a0 L0.length c0,.slice a1 L1.length c1,.slice a2 L2.length c2,.int .i64 x3]
 have gY:=ak hP
 have hz0:W.heap.size≤(W.alloc (.cells #[.slice a0 L0.length c0,.slice a1 L1.length c1,.slice a2 L2.length c2,.int .i64 x3] 39)).heap.size:=HB0.out.size
 clear hP
 go_enter Tryz.func93,Tryz.ntmps93
 go_wp2_with fail
 refine (FE (k:=k) (k':=z0) (by omega) (by omega) HM0.out ((jJ.out.below (aZ au) HB0.out).more (aZ au) hz0)).mono ?_
 intro e w1 h
 obtain ⟨rfl,hb⟩:=eU h
 have cZ:=ak (gY.out.call hb)
 have HB1:=ak (HB0.out.trans (hb.mono hz0))
 have hz1:W.heap.size≤w1.heap.size:=HB1.out.size
 clear h hb
 obtain ⟨vK,qK,ou⟩:=cZ.out.pz rfl
 have Dw:(0:Int)≤z0:=by omega
 go_wp2_with fail
 refine (LW (k:=z0) (k':=z1) (by omega) (by omega) Cz.out ((pJ.out.below aG HB1.out).more aG hz1)).mono ?_
 intro e w2 h
 obtain ⟨rfl,hb⟩:=eU h
 have iD:=ak (cZ.out.call hb)
 have HB2:=ak (HB1.out.trans (hb.mono hz1))
 have hz2:W.heap.size≤w2.heap.size:=HB2.out.size
 clear h hb
 obtain ⟨CP,CO,zG⟩:=iD.out.pz rfl
 have aaL:(0:Int)≤z1:=by omega
 go_wp2_with fail
 refine (Jm (k:=z1) (k':=z2) (by omega) (by omega) je.out ((pI.out.below aC HB2.out).more aC hz2)).mono ?_
 intro e w3 h
 obtain ⟨rfl,hb⟩:=eU h
 have iG:=ak (iD.out.call hb)
 have HB3:=ak (HB2.out.trans (hb.mono hz2))
 have hz3:W.heap.size≤w3.heap.size:=HB3.out.size
 clear h hb
 obtain ⟨EC,EB,EA⟩:=iG.out.pz rfl
 have Uk:(0:Int)≤z2:=by omega
 go_wp2
 go_ret
 exact ⟨rfl,HB3.out⟩
theorem Cb {L0:List (List (ay))}{L1:List (bA)}{L2:List (aX)}{x3:Int}:cu.cv (L0,L1,L2,x3)=bD ((Sl av)).cm L0+bD (aT).cm L1+bD (aN).cm L2:=by
 simp only [cu,Pr,Sl,I,Bo,atom];omega
end
section
open Go.RowKit bN bO Go.ChangeShapes
theorem Vn:Tryz.prog.cellsOf 179=5:=by kernel_rfl
theorem VY:zQ aT 179:=fun enc W fuel cs y h=>by
 obtain ⟨xs,n,_,_,hl,hlen,hf⟩:=DataW.trod_struct Tryz.underlying179 h
 rw [Vn] at hl
 match cs,hl with
 | [c0,c1,c2,c3,c4],_=>
  have e2:xs.length=3:=hlen
  match xs,e2 with
  | [y0,y1,y2],_=>
   have g0:=qJ hf 0 33 0 2 rfl nQ
   have g1:=qJ hf 1 33 2 2 rfl nQ
   have g2:=qJ hf 2 2 4 1 rfl fO
   obtain ⟨d0,h0⟩:=kD enc W n [c0,c1] y0 g0
   obtain ⟨d1,h1⟩:=kD enc W n [c2,c3] y1 g1
   obtain ⟨d2,h2⟩:=fM enc W n [c4] y2 g2
   exact ⟨(d0,d1,d2),⟨[c0,c1],[c2,c3,c4],rfl,h0,⟨[c2,c3],[c4],rfl,h1,h2⟩⟩⟩
theorem aah:Tryz.prog.cellsOf 23=1:=by kernel_rfl
theorem Q5:zQ (Sl aT) 23:=pO VY (by decide) Tryz.underlying23 Vn
theorem O4:Tryz.prog.cellsOf 184=3:=by kernel_rfl
theorem Q0:zQ aN 184:=fun enc W fuel cs y h=>by
 obtain ⟨xs,n,_,_,hl,hlen,hf⟩:=DataW.trod_struct Tryz.underlying184 h
 rw [O4] at hl
 match cs,hl with
 | [c0,c1,c2],_=>
  have e2:xs.length=2:=hlen
  match xs,e2 with
  | [y0,y1],_=>
   have g0:=qJ hf 0 33 0 2 rfl nQ
   have g1:=qJ hf 1 2 2 1 rfl fO
   obtain ⟨d0,h0⟩:=kD enc W n [c0,c1] y0 g0
   obtain ⟨d1,h1⟩:=fM enc W n [c2] y1 g1
   exact ⟨(d0,d1),⟨[c0,c1],[c2],rfl,h0,h1⟩⟩
theorem Xb:Tryz.prog.cellsOf 24=1:=by kernel_rfl
theorem Le:zQ (Sl aN) 24:=pO Q0 (by decide) Tryz.underlying24 O4
theorem IJ:Tryz.prog.cellsOf 26=4:=by kernel_rfl
theorem Lg:zQ cu 26:=fun enc W fuel cs y h=>by
 obtain ⟨xs,n,_,_,hl,hlen,hf⟩:=DataW.trod_struct Tryz.underlying26 h
 rw [IJ] at hl
 match cs,hl with
 | [c0,c1,c2,c3],_=>
  have e2:xs.length=4:=hlen
  match xs,e2 with
  | [y0,y1,y2,y3],_=>
   have g0:=qJ hf 0 22 0 1 rfl RP
   have g1:=qJ hf 1 23 1 1 rfl aah
   have g2:=qJ hf 2 24 2 1 rfl Xb
   have g3:=qJ hf 3 2 3 1 rfl fO
   obtain ⟨d0,h0⟩:=Jc enc W n [c0] y0 g0
   obtain ⟨d1,h1⟩:=Q5 enc W n [c1] y1 g1
   obtain ⟨d2,h2⟩:=Le enc W n [c2] y2 g2
   obtain ⟨d3,h3⟩:=fM enc W n [c3] y3 g3
   exact ⟨(d0,d1,d2,d3),⟨[c0],[c1,c2,c3],rfl,h0,⟨[c1],[c2,c3],rfl,h1,⟨[c2],[c3],rfl,h2,h3⟩⟩⟩⟩
end
section
open Go.RowKit bN bO
theorem iK (y0 y1 x0 x1:Int)(b:Bool)(hb:decide (((y0,y1):Int×Int)=(x0,x1))=b):∀ w,(binOp .eql 49 (.agg #[.int .i64 y0,.int .i64 y1]) (.agg #[.int .i64 x0,.int .i64 x1])).run Tryz.prog w=.ok (.bool b) w:=by
 intro w
 subst hb
 go_simp
 repeat' split
 all_goals simp_all
theorem wI (y0 y1 x0 x1:Int)(b:Bool)(hb:decide (((y0,y1):Int×Int)=(x0,x1))=b):∀ w,(binOp .neq 49 (.agg #[.int .i64 y0,.int .i64 y1]) (.agg #[.int .i64 x0,.int .i64 x1])).run Tryz.prog w=.ok (.bool (!b)) w:=by
 intro w
 subst hb
 go_simp
 repeat' split
 all_goals simp_all
theorem sD {p:Prop}(b:Bool)(h:b=true↔p):(b=true∧p)∨(b=false∧¬p):=by cases b <;> simp_all
end
end aQ
end Go.Proofs.YtlhfiapfncikdaaGreatDoor
