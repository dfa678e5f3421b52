import Derived.Test.YtlhfiapfncikdaaGreatDoorPU1
import Derived.Test.YtlhfiapfncikdaaGreatDoorPU4
set_option linter.unusedVariables false
set_option linter.unusedSimpArgs false
set_option maxRecDepth 100000
set_option maxHeartbeats 3200000
namespace Go.Proofs.YtlhfiapfncikdaaGreatDoor.vK
section
open Go.ChangeShapes Go.WideShapes Go.ChangeAt Go.RowKit Go.Joins
section
variable {H:Type}{enc:TypeId×Value→H}{P:Program}
def wu (P:Program)(ts:List TypeId):Bool:=ts.all fun t=>P.readableRec t&&decide (t<P.types.size)
theorem tX (hl:laidOutB P=true){W W':World}(hb:Below W.heap.size W W'):∀ (ts:List TypeId)(vs:List Value)(ds:List (DataW H))(ps:List MemPlace),wu P ts=true →
 DataW.TrodAll enc P W 0 (fun _=>true) true ts vs ds ps→DataW.TrodAll enc P W' 0 (fun b=>decide (b<W.heap.size)) true ts vs ds ps
 | [],vs,ds,ps,_,h=>by
  obtain ⟨rfl,rfl,rfl⟩:=trodAll_nil h
  exact trodAll_mk0
 | t::ts,vs,ds,ps,hr,h=>by
  obtain ⟨v,vs',d,ds',p,q,rfl,rfl,rfl,h1,h2⟩:=trodAll_cons h
  have hr':(P.readableRec t=true∧t<P.types.size)∧wu P ts=true:=by
   unfold wu at hr
   simpa [List.all_cons,wu] using hr
  have lt:∀ x∈p,x.block<W.heap.size:=by obtain ⟨m,hm⟩:=h1;exact DataW.trod_lt m _ _ _ hm
  exact trodAll_cons_mk (Below.trod hl hr'.1.1 hr'.1.2 h1 hb lt) (tX hl hb ts vs' ds' q hr'.2 h2)
theorem var_stays {W W':World}(hb:Below W.heap.size W W'){n:String}{g:Nat}{cs:Array Value}(hg:P.globalNamed n=some g)(h:W.var? P n=some cs):W'.var? P n=some cs:=by
 have hlt:g<W.heap.size:=by
  simp only [World.var?,hg,Option.bind_some] at h
  cases hw:W.heap[g]? with
  | none=>rw [hw] at h;simp at h
  | some o=>exact (Array.getElem?_eq_some_iff.1 hw).1
 simp only [World.var?,hg,Option.bind_some] at h ⊢
 rw [hb.block g hlt]
 exact h
def wB (P:Program)(ns:List String):Bool:=ns.all fun n=>match (P.globalNamed n).bind (fun g=>(P.globals[g]?).map (·.type)) with | some t=>P.readableRec t&&decide (t<P.types.size) | none=>false
theorem ru (hl:laidOutB P=true){W W':World}(hb:Below W.heap.size W W'):∀ (ns:List String)(gs:List (DataW H))(ps:List MemPlace),wB P ns=true →
 DataW.TrodVars enc P W (fun _=>true) ns gs ps→DataW.TrodVars enc P W' (fun b=>decide (b<W.heap.size)) ns gs ps
 | [],gs,ps,_,h=>by
  obtain ⟨rfl,rfl⟩:=trodVars_none h
  exact rfl
 | n::ns,[],ps,_,h=>by cases h
 | n::ns,d::gs,ps,hr,h=>by
  obtain ⟨g,t,cs,fuel,p,q,h1,h2,h3,h4,h5,rfl⟩:=h
  have hr':(P.readableRec t=true∧t<P.types.size)∧wB P ns=true:=by
   unfold wB at hr
   rw [List.all_cons,Bool.and_eq_true] at hr
   have h0:=hr.1
   rw [h1,Option.bind_some,h2] at h0
   simp only [Bool.and_eq_true,decide_eq_true_eq] at h0
   exact ⟨h0,hr.2⟩
  have lt:∀ x∈p,x.block<W.heap.size:=DataW.trod_lt fuel _ _ _ h4
  obtain ⟨fuel',h6⟩:=Below.trod hl hr'.1.1 hr'.1.2 (v:=.agg cs) (d:=d) (ps:=p) ⟨fuel,h4⟩ hb lt
  exact ⟨g,t,cs,fuel',p,q,h1,h2,var_stays hb h1 h3,h6,ru hl hb ns gs q hr'.2 h5,rfl⟩
theorem gV {W:World}{sp:Nat→Bool}{n:String}{ns:List String}{gs:List (DataW H)}{ps:List MemPlace}(h:DataW.TrodVars enc P W sp (n::ns) gs ps):∃ d gs' q,gs=d::gs'∧DataW.TrodVars enc P W sp ns gs' q:=by
 cases gs with
 | nil=>cases h
 | cons d gs'=>
  obtain ⟨g,t,cs,fuel,p,q,_,_,_,_,h5,_⟩:=h
  exact ⟨d,gs',q,rfl,h5⟩
theorem Vv {f:Func}{s:ChangeSpec}{W W':World}{args:Array Value}{ds gs:List (DataW H)}{before:List MemPlace}{tb:TypeId}(hspec:s.fn H (ds++gs)={ results:=[.lit (.bool true)],args:=ds,vars:=gs })
 (hl:laidOutB P=true) (hr:wu P f.params.toList=true) (hv:wB P s.vars=true) (hres:f.resultTypes=#[tb]) (adt:P.underlying tb=some .bool)
 (hW:DataW.Whole enc P f.params.toList s.vars false W args.toList ds gs before) (hb:Below W.heap.size W W'):s.post enc P f false true false false W args (.bool true) W':=by
 have hW':=hW
 obtain ⟨p,q,hA,hV,rfl,_,_⟩:=hW
 refine ⟨ds,gs,_,[],p,q,hW',?_,?_,?_,hb.frame _,fun h=>by cases h⟩
 ·rw [hspec,hres]
  exact trodAll_mk1 (shut_bool adt _)
 ·rw [hspec]
  exact tX hl hb _ _ _ _ hr hA
 ·rw [hspec]
  exact ru hl hb _ _ _ hv hV
end
end
end Go.Proofs.YtlhfiapfncikdaaGreatDoor.vK
namespace Go.Proofs.YtlhfiapfncikdaaGreatDoor.aP
section
open Go.ChangeShapes Go.WideShapes Go.ChangeAt Go.RowKit Go.Joins Go.Deep bN bP
def zC {α:Type}(E:Rp α)(t:TypeId):Prop:=∀ {H:Type}(enc:TypeId×Value→H)(W:World)(fuel:Nat)(cs:List Value)(y:DataW H×List MemPlace),DataW.trod enc Tryz.prog W 0 (fun _=>true) true fuel t cs=some y→∃ d,E.rd W W.heap.size d cs
theorem Zr {t:TypeId}(ht:Tryz.prog.underlying t=some (.int .i64)):zC I t:=fun enc W fuel cs y h=>by
 obtain ⟨n,rfl,_,_⟩:=DataW.trod_int ht h
 exact ⟨n,rfl⟩
theorem Ir (b o k:Nat):(⟨b,o,none⟩:Addr).add k=⟨b,o+k,none⟩:=by
 unfold Addr.add;split
 ·rename_i hz;rw [hz];rfl
 ·rfl
theorem pJ {α:Type}{E:Rp α}{t e:TypeId}(hE:zC E e)(hp:0<E.size)(ht:Tryz.prog.underlying t=some (.slice e))(hc:Tryz.prog.cellsOf e=E.size):zC (Sl E) t:=fun enc W fuel cs y h=>by
 rcases open_slice ht h with ⟨rfl,_⟩ | ⟨x,n,cap,m,k,D,Pl,rfl,_,hl,hm,hmm,_,hi⟩
 ·exact ⟨[],none,0,rfl,bK _,dX _,fun h=>absurd h (jK _)⟩
 ·simp only [if_true] at hmm
  rw [hc] at hi
  have hone:∀ i,i<n→∃ d us,us.length=E.size∧(∀ j,j<E.size→W.cell? ((x.add (i*E.size)).add j)=us[j]?)∧E.rd W W.heap.size d us:=fun i hin=>by
   obtain ⟨us,h1,h2⟩:=hi i (by omega)
   obtain ⟨_,h3,h4⟩:=World.cells?_some h1
   obtain ⟨d,hd⟩:=hE enc W k us _ h2
   exact ⟨d,us,h3,h4,hd⟩
  by_cases hn:n=0
  ·subst hn
   exact ⟨[],some x,cap,rfl,hl,hm,fun h=>absurd h (jK _)⟩
  ·obtain ⟨d0,us0,l0,c0,_⟩:=hone 0 (by omega)
   have e0:(x.add (0*E.size)).add 0=x:=by simp [Addr.add]
   have h0:=c0 0 hp
   rw [e0] at h0
   have hu:∃ u,us0[0]? = some u:=⟨us0[0],List.getElem?_eq_getElem (by omega)⟩
   obtain ⟨u,hu⟩:=hu
   rw [hu] at h0
   have hsp:x.spot=none:=by
    cases hs:x.spot with
    | none=>rfl
    | some s=>simp [World.cell?,hs] at h0;split at h0 <;> simp at h0
   obtain ⟨b,off,sp⟩:=x
   simp only at hsp
   subst hsp
   have hb:=World.block_lt_of_cell? W ⟨b,off,none⟩ h0
   have hall:∀ q,q≤n→∃ L:List α,L.length=q∧∀ i d,L[i]? = some d→∃ us,aQ W b (off+i*E.size) us∧E.rd W W.heap.size d us:=by
    intro q
    induction q with
    | zero=>exact fun _=>⟨[],rfl,fun i d hd=>by simp at hd⟩
    | succ q ih=>
     intro hq
     obtain ⟨L,hL,hall⟩:=ih (by omega)
     obtain ⟨d,us,WZ,hcs,hd⟩:=hone q (by omega)
     refine ⟨L++[d],by simp [hL],fun i z hz=>?_⟩
     by_cases hi:i<L.length
     ·rw [List.getElem?_append_left hi] at hz
      exact hall i z hz
     ·rw [List.getElem?_append_right (by omega)] at hz
      have hi2:i=q:=by
       have:=(List.getElem?_eq_some_iff.1 hz).1
       simp at this
       omega
      subst hi2
      simp [hL] at hz
      subst hz
      refine ⟨us,fun j c hj=>?_,hd⟩
      have hj2:=(List.getElem?_eq_some_iff.1 hj).1
      have:=hcs j (by omega)
      rw [Ir,Ir,hj] at this
      exact this
   obtain ⟨L,hL,hel⟩:=hall n (bK _)
   subst hL
   exact ⟨L,some ⟨b,off,none⟩,cap,rfl,hl,hm,fun _=>⟨b,off,rfl,hb,hel⟩⟩
theorem qG {H:Type}{enc:TypeId×Value→H}{W:World}{n:Nat}{cs:List Value}{fs:Array Field}{xs:List (DataW H×List MemPlace)}(hf:∀ (i:Nat)(f:Field),fs[i]? = some f→DataW.trod enc Tryz.prog W 0 (fun _=>true) true n f.type ((cs.drop f.offset).take (Tryz.prog.cellsOf f.type))=xs[i]?)
 (i:Nat) (t o k:Nat) (h:fs[i]?.map (fun f=>(f.type,f.offset))=some (t,o)) (hc:Tryz.prog.cellsOf t=k):DataW.trod enc Tryz.prog W 0 (fun _=>true) true n t ((cs.drop o).take k)=xs[i]?:=by
 cases e:fs[i]? with
 | none=>rw [e] at h;cases h
 | some f=>
  rw [e] at h
  simp only [Option.map_some,Option.some.injEq,Prod.mk.injEq] at h
  obtain ⟨rfl,rfl⟩:=h
  subst hc
  exact hf i f e
theorem Zu {α:Type}{E:Rp α}{t:TypeId}{fs:Array Field}(hO:zC E t)(ht:Tryz.prog.underlying t=some (.struct fs)){H:Type}{enc:TypeId×Value→H}{W:World}{base:Nat}{v:Value}{d:DataW H}{p:List MemPlace}(o:Value.okWide Tryz.prog W .any base t v)
 (h:DataW.Trod enc Tryz.prog W 0 (fun _=>true) true t v d p):∃ (x:α) (cs:List Value),v=.agg cs.toArray∧E.rd W W.heap.size x cs:=by
 obtain ⟨cs,rfl,_⟩:=okWide_struct ht o
 obtain ⟨fuel,hf⟩:=h
 obtain ⟨x,hx⟩:=hO enc W fuel _ _ hf
 exact ⟨x,cs.toList,rfl,hx⟩
theorem fI:Tryz.prog.cellsOf 2=1:=by kernel_rfl
theorem abU:Tryz.prog.cellsOf 70=1:=by kernel_rfl
theorem nI:Tryz.prog.cellsOf 33=2:=by kernel_rfl
theorem fH:zC I 2:=Zr Tryz.underlying2
theorem Vx:zC (Sl I) 70:=pJ fH (by decide) Tryz.underlying70 fI
theorem kF:zC au 33:=fun enc W fuel cs y h=>by
 obtain ⟨xs,n,_,_,hl,hlen,hf⟩:=DataW.trod_struct Tryz.underlying33 h
 rw [nI] at hl
 match cs,hl with
 | [c0,c1],_=>
  have e2:xs.length=2:=hlen
  match xs,e2 with
  | [y0,y1],_=>
   have g0:=qG hf 0 2 0 1 rfl fI
   have g1:=qG hf 1 2 1 1 rfl fI
   obtain ⟨d0,h0⟩:=fH enc W n [c0] y0 g0
   obtain ⟨d1,h1⟩:=fH enc W n [c1] y1 g1
   exact ⟨(d0,d1),[c0],[c1],rfl,h0,h1⟩
theorem WO:Tryz.prog.cellsOf 171=1:=by kernel_rfl
theorem Rj:Tryz.prog.cellsOf 22=1:=by kernel_rfl
theorem KP:zC (Sl au) 171:=pJ kF (by decide) Tryz.underlying171 nI
theorem IV:zC (Sl (Sl au)) 22:=pJ KP (by decide) Tryz.underlying22 WO
end
section
open Go.RowKit bN bP
theorem ab3:(aS).size=5:=rfl
theorem KZ {L:List (bq)}{a:Option Addr}{cap:Nat}{W:World}{S:Nat→Prop}{k:Int}(h0:0≤k)(h1:k+(bE (aS).cm L:Nat)≤4611686018427387904)(hS:∀ i,S i→i<W.heap.size)(h:bG aS W S L a cap):Calls Tryz.prog 88 #[.slice a L.length cap,.int .i64 k] W (jF aS S L a cap k W):=by
 have hcap:=h.1
 have hmax:=h.2.1
 have hn:L.length≤9223372036854775807:=by have h2:=h.2.1;unfold maxLen at h2;omega
 have H:=aj h
 have HCAP:=aj hcap
 have qM:=aj hmax
 clear h hcap hmax
 rcases Nat.eq_zero_or_pos L.length with hz | hpos
 ·have HR:=aj (jF.none_ (k:=k) H.out hz)
  have HZ:=aj hz
  rw [hz]
  clear hz
  go_enter Tryz.func88,Tryz.ntmps88
  go_wp2
  go_loopw [5,1] (fun i q wr=>i=.int .i64 0∧q=.int .i64 k∧wr=W) (fun i _ _=>0)
  case atStart=>exact ⟨rfl,rfl,rfl⟩
  case round=>
   obtain ⟨rfl,rfl,rfl⟩:=hrel
   go_wp2
   go_ret
   exact HR.out
 ·obtain ⟨g,Sf,rfl,hrow⟩:=H.out.row hpos
  have HM:=aj (wW.start (k:=k) hrow)
  clear hrow
  go_enter Tryz.func88,Tryz.ntmps88
  go_wp2
  go_loopw [5,1] (fun i q wr=>∃ j:Nat,j≤L.length∧i=.int .i64 j∧∃ (M:List (bq)) (z:Int),q=.int .i64 z∧wW aS W wr S L g Sf k z j M) (fun i _ _=>L.length-(intOf i).toNat)
  case atStart=>exact ⟨0,dX _,rfl,_,_,rfl,HM.out⟩
  case round=>
   obtain ⟨j,hj,rfl,M,z,rfl,hM⟩:=hrel
   have jg:=aj hM
   have hSw:∀ i,S i→i<wr.heap.size:=fun i hi=>bV (hS i hi) hM.off.size
   have zR:=aj hSw
   by_cases hlt:j<L.length
   ·obtain ⟨⟨⟨x0,x1⟩,⟨x2,x3⟩,x4⟩,hx⟩:=aL hlt
    have HX:=aj hx
    have hcm:=fA (aS).cm hx
    have hle:=dn (aS).cm L (j+1)
    have qI:=hM.num
    obtain ⟨us,hu,hr⟩:=hM.el hx
    obtain rfl:=GR hr
    have hgl:g<wr.heap.size:=hSw g hM.row.own
    have hi0:(0:Int)≤(j:Int):=eu _
    have hi1:(j:Int)<(L.length:Int):=by omega
    have hz0:0≤z:=by omega
    obtain ⟨e0,e1,e2,e3,e4⟩:=SH (a:=j*5) hu rfl
    have s0:=hM.row.soft (j*5)
    have s1:=hM.row.soft (j*5+1)
    have s2:=hM.row.soft (j*5+2)
    have s3:=hM.row.soft (j*5+3)
    have s4:=hM.row.soft (j*5+4)
    have hcx:aS.cm ((x0,x1),(x2,x3),x4)=5:=by first | (simp only [aS,au,au,Pr,I,atom,Sl];done) | (simp only [aS,au,au,Pr,I,atom,Sl];omega)
    rw [hcm,hcx] at hle
    have hb1:z+((5:Nat):Int)≤4611686018427387904:=by omega
    have hne:¬Sf j g:=fun hg=>(jg.out.row.sub j g hg).2 rfl
    have OM:=aj (nW.refl wr g (j*5) ((j+1)*5) (Sf j))
    have JQ:=aj (Off.refl S wr)
    clear hM hSw hx hu hcm hle qI
    have hc:=dw g [.int .i64 (z),.int .i64 (z+1),.int .i64 (z+1+1),.int .i64 (z+1+1+1),.int .i64 (z+1+1+1+1)] wr (j*5) (fun p hp=>by
     match p,hp with
     | 0,_=>exact ⟨_,by simpa [Nat.add_assoc] using e0⟩
     | 1,_=>exact ⟨_,by simpa [Nat.add_assoc] using e1⟩
     | 2,_=>exact ⟨_,by simpa [Nat.add_assoc] using e2⟩
     | 3,_=>exact ⟨_,by simpa [Nat.add_assoc] using e3⟩
     | 4,_=>exact ⟨_,by simpa [Nat.add_assoc] using e4⟩
     | _+5,hp=>simp at hp;omega)
    have d0:(putCells wr g (j*5) [.int .i64 (z),.int .i64 (z+1),.int .i64 (z+1+1),.int .i64 (z+1+1+1),.int .i64 (z+1+1+1+1)]).cell? ⟨g,j*5,none⟩=some (.int .i64 (z)):=by simpa [Nat.add_assoc] using hc 0 _ rfl
    have d1:(putCells wr g (j*5) [.int .i64 (z),.int .i64 (z+1),.int .i64 (z+1+1),.int .i64 (z+1+1+1),.int .i64 (z+1+1+1+1)]).cell? ⟨g,j*5+1,none⟩=some (.int .i64 (z+1)):=by simpa [Nat.add_assoc] using hc 1 _ rfl
    have d2:(putCells wr g (j*5) [.int .i64 (z),.int .i64 (z+1),.int .i64 (z+1+1),.int .i64 (z+1+1+1),.int .i64 (z+1+1+1+1)]).cell? ⟨g,j*5+2,none⟩=some (.int .i64 (z+1+1)):=by simpa [Nat.add_assoc] using hc 2 _ rfl
    have d3:(putCells wr g (j*5) [.int .i64 (z),.int .i64 (z+1),.int .i64 (z+1+1),.int .i64 (z+1+1+1),.int .i64 (z+1+1+1+1)]).cell? ⟨g,j*5+3,none⟩=some (.int .i64 (z+1+1+1)):=by simpa [Nat.add_assoc] using hc 3 _ rfl
    have d4:(putCells wr g (j*5) [.int .i64 (z),.int .i64 (z+1),.int .i64 (z+1+1),.int .i64 (z+1+1+1),.int .i64 (z+1+1+1+1)]).cell? ⟨g,j*5+4,none⟩=some (.int .i64 (z+1+1+1+1)):=by simpa [Nat.add_assoc] using hc 4 _ rfl
    have t0:(putCells wr g (j*5) [.int .i64 (z),.int .i64 (z+1),.int .i64 (z+1+1),.int .i64 (z+1+1+1),.int .i64 (z+1+1+1+1)]).frozen? ⟨g,j*5,none⟩=false:=(aF g _ _ wr _).trans s0
    have t1:(putCells wr g (j*5) [.int .i64 (z),.int .i64 (z+1),.int .i64 (z+1+1),.int .i64 (z+1+1+1),.int .i64 (z+1+1+1+1)]).frozen? ⟨g,j*5+1,none⟩=false:=(aF g _ _ wr _).trans s1
    have t2:(putCells wr g (j*5) [.int .i64 (z),.int .i64 (z+1),.int .i64 (z+1+1),.int .i64 (z+1+1+1),.int .i64 (z+1+1+1+1)]).frozen? ⟨g,j*5+2,none⟩=false:=(aF g _ _ wr _).trans s2
    have t3:(putCells wr g (j*5) [.int .i64 (z),.int .i64 (z+1),.int .i64 (z+1+1),.int .i64 (z+1+1+1),.int .i64 (z+1+1+1+1)]).frozen? ⟨g,j*5+3,none⟩=false:=(aF g _ _ wr _).trans s3
    have t4:(putCells wr g (j*5) [.int .i64 (z),.int .i64 (z+1),.int .i64 (z+1+1),.int .i64 (z+1+1+1),.int .i64 (z+1+1+1+1)]).frozen? ⟨g,j*5+4,none⟩=false:=(aF g _ _ wr _).trans s4
    have JL:=aj (OM.out.trans (nW.put wr (Sf j) (g:=g) (o:=j*5) (cs:=[.int .i64 (z),.int .i64 (z+1),.int .i64 (z+1+1),.int .i64 (z+1+1+1),.int .i64 (z+1+1+1+1)]) ⟨by omega,by first | (simp;done) | (simp;omega)⟩))
    have zV:=aj (JQ.out.trans ((dO g [.int .i64 (z),.int .i64 (z+1),.int .i64 (z+1+1),.int .i64 (z+1+1+1),.int .i64 (z+1+1+1+1)] wr (j*5)).more (fun x e=>by rw [e];exact jg.out.row.own)))
    clear hc
    have hcf:aQ (putCells wr g (j*5) [.int .i64 (z),.int .i64 (z+1),.int .i64 (z+1+1),.int .i64 (z+1+1+1),.int .i64 (z+1+1+1+1)]) g (j*5) [.int .i64 (z),.int .i64 (z+1),.int .i64 (z+1+1),.int .i64 (z+1+1+1),.int .i64 (z+1+1+1+1)]:=aQ.cons.2 ⟨d0,aQ.cons.2 ⟨d1,aQ.cons.2 ⟨d2,aQ.cons.2 ⟨d3,aQ.cons.2 ⟨d4,aQ.nil⟩⟩⟩⟩⟩
    have jd:=aj (jg.out.step aD (w':=(putCells wr g (j*5) [.int .i64 (z),.int .i64 (z+1),.int .i64 (z+1+1),.int .i64 (z+1+1+1),.int .i64 (z+1+1+1+1)])) (y:=((z,z+1),(z+1+1,z+1+1+1),z+1+1+1+1)) (q':=z+1+1+1+1+1) zR.out HX.out JL.out zV.out hcf (xS) (VP) (by rw [hcx];omega))
    clear d0 t0 d1 t1 d2 t2 d3 t3 d4 t4
    have hzb:0≤z+1+1+1+1+1∧z+1+1+1+1+1≤4611686018427387904:=by omega
    clear hcf hcx
    go_wp2
    go_roundw
    case rel=>exact ⟨j+1,by omega,by go_num,_,_,rfl,by first | exact jd.out | simpa [putCells,Nat.add_assoc,Int.add_assoc] using jd.out⟩
    case measure=>simp [intOf];omega
   ·obtain rfl:j=L.length:=by omega
    have HR:=aj (jg.out.done HCAP.out qM.out)
    clear hM hSw
    go_wp2
    go_ret
    exact HR.out
theorem abv:(aM).size=3:=rfl
theorem IX {L:List (aV)}{a:Option Addr}{cap:Nat}{W:World}{S:Nat→Prop}{k:Int}(h0:0≤k)(h1:k+(bE (aM).cm L:Nat)≤4611686018427387904)(hS:∀ i,S i→i<W.heap.size)(h:bG aM W S L a cap):Calls Tryz.prog 89 #[.slice a L.length cap,.int .i64 k] W (jF aM S L a cap k W):=by
 have hcap:=h.1
 have hmax:=h.2.1
 have hn:L.length≤9223372036854775807:=by have h2:=h.2.1;unfold maxLen at h2;omega
 have H:=aj h
 have HCAP:=aj hcap
 have qM:=aj hmax
 clear h hcap hmax
 rcases Nat.eq_zero_or_pos L.length with hz | hpos
 ·have HR:=aj (jF.none_ (k:=k) H.out hz)
  have HZ:=aj hz
  rw [hz]
  clear hz
  go_enter Tryz.func89,Tryz.ntmps89
  go_wp2
  go_loopw [5,1] (fun i q wr=>i=.int .i64 0∧q=.int .i64 k∧wr=W) (fun i _ _=>0)
  case atStart=>exact ⟨rfl,rfl,rfl⟩
  case round=>
   obtain ⟨rfl,rfl,rfl⟩:=hrel
   go_wp2
   go_ret
   exact HR.out
 ·obtain ⟨g,Sf,rfl,hrow⟩:=H.out.row hpos
  have HM:=aj (wW.start (k:=k) hrow)
  clear hrow
  go_enter Tryz.func89,Tryz.ntmps89
  go_wp2
  go_loopw [5,1] (fun i q wr=>∃ j:Nat,j≤L.length∧i=.int .i64 j∧∃ (M:List (aV)) (z:Int),q=.int .i64 z∧wW aM W wr S L g Sf k z j M) (fun i _ _=>L.length-(intOf i).toNat)
  case atStart=>exact ⟨0,dX _,rfl,_,_,rfl,HM.out⟩
  case round=>
   obtain ⟨j,hj,rfl,M,z,rfl,hM⟩:=hrel
   have jg:=aj hM
   have hSw:∀ i,S i→i<wr.heap.size:=fun i hi=>bV (hS i hi) hM.off.size
   have zR:=aj hSw
   by_cases hlt:j<L.length
   ·obtain ⟨⟨⟨x0,x1⟩,x2⟩,hx⟩:=aL hlt
    have HX:=aj hx
    have hcm:=fA (aM).cm hx
    have hle:=dn (aM).cm L (j+1)
    have qI:=hM.num
    obtain ⟨us,hu,hr⟩:=hM.el hx
    obtain rfl:=DK hr
    have hgl:g<wr.heap.size:=hSw g hM.row.own
    have hi0:(0:Int)≤(j:Int):=eu _
    have hi1:(j:Int)<(L.length:Int):=by omega
    have hz0:0≤z:=by omega
    obtain ⟨e0,e1,e2⟩:=J8 (a:=j*3) hu rfl
    have s0:=hM.row.soft (j*3)
    have s1:=hM.row.soft (j*3+1)
    have s2:=hM.row.soft (j*3+2)
    have hcx:aM.cm ((x0,x1),x2)=3:=by first | (simp only [aM,au,Pr,I,atom,Sl];done) | (simp only [aM,au,Pr,I,atom,Sl];omega)
    rw [hcm,hcx] at hle
    have hb1:z+((3:Nat):Int)≤4611686018427387904:=by omega
    have hne:¬Sf j g:=fun hg=>(jg.out.row.sub j g hg).2 rfl
    have OM:=aj (nW.refl wr g (j*3) ((j+1)*3) (Sf j))
    have JQ:=aj (Off.refl S wr)
    clear hM hSw hx hu hcm hle qI
    have hc:=dw g [.int .i64 (z),.int .i64 (z+1),.int .i64 (z+1+1)] wr (j*3) (fun p hp=>by
     match p,hp with
     | 0,_=>exact ⟨_,by simpa [Nat.add_assoc] using e0⟩
     | 1,_=>exact ⟨_,by simpa [Nat.add_assoc] using e1⟩
     | 2,_=>exact ⟨_,by simpa [Nat.add_assoc] using e2⟩
     | _+3,hp=>simp at hp;omega)
    have d0:(putCells wr g (j*3) [.int .i64 (z),.int .i64 (z+1),.int .i64 (z+1+1)]).cell? ⟨g,j*3,none⟩=some (.int .i64 (z)):=by simpa [Nat.add_assoc] using hc 0 _ rfl
    have d1:(putCells wr g (j*3) [.int .i64 (z),.int .i64 (z+1),.int .i64 (z+1+1)]).cell? ⟨g,j*3+1,none⟩=some (.int .i64 (z+1)):=by simpa [Nat.add_assoc] using hc 1 _ rfl
    have d2:(putCells wr g (j*3) [.int .i64 (z),.int .i64 (z+1),.int .i64 (z+1+1)]).cell? ⟨g,j*3+2,none⟩=some (.int .i64 (z+1+1)):=by simpa [Nat.add_assoc] using hc 2 _ rfl
    have t0:(putCells wr g (j*3) [.int .i64 (z),.int .i64 (z+1),.int .i64 (z+1+1)]).frozen? ⟨g,j*3,none⟩=false:=(aF g _ _ wr _).trans s0
    have t1:(putCells wr g (j*3) [.int .i64 (z),.int .i64 (z+1),.int .i64 (z+1+1)]).frozen? ⟨g,j*3+1,none⟩=false:=(aF g _ _ wr _).trans s1
    have t2:(putCells wr g (j*3) [.int .i64 (z),.int .i64 (z+1),.int .i64 (z+1+1)]).frozen? ⟨g,j*3+2,none⟩=false:=(aF g _ _ wr _).trans s2
    have JL:=aj (OM.out.trans (nW.put wr (Sf j) (g:=g) (o:=j*3) (cs:=[.int .i64 (z),.int .i64 (z+1),.int .i64 (z+1+1)]) ⟨by omega,by first | (simp;done) | (simp;omega)⟩))
    have zV:=aj (JQ.out.trans ((dO g [.int .i64 (z),.int .i64 (z+1),.int .i64 (z+1+1)] wr (j*3)).more (fun x e=>by rw [e];exact jg.out.row.own)))
    clear hc
    have hcf:aQ (putCells wr g (j*3) [.int .i64 (z),.int .i64 (z+1),.int .i64 (z+1+1)]) g (j*3) [.int .i64 (z),.int .i64 (z+1),.int .i64 (z+1+1)]:=aQ.cons.2 ⟨d0,aQ.cons.2 ⟨d1,aQ.cons.2 ⟨d2,aQ.nil⟩⟩⟩
    have jd:=aj (jg.out.step aB (w':=(putCells wr g (j*3) [.int .i64 (z),.int .i64 (z+1),.int .i64 (z+1+1)])) (y:=((z,z+1),z+1+1)) (q':=z+1+1+1) zR.out HX.out JL.out zV.out hcf (uQ) (QE) (by rw [hcx];omega))
    clear d0 t0 d1 t1 d2 t2
    have hzb:0≤z+1+1+1∧z+1+1+1≤4611686018427387904:=by omega
    clear hcf hcx
    go_wp2
    go_roundw
    case rel=>exact ⟨j+1,by omega,by go_num,_,_,rfl,by first | exact jd.out | simpa [putCells,Nat.add_assoc,Int.add_assoc] using jd.out⟩
    case measure=>simp [intOf];omega
   ·obtain rfl:j=L.length:=by omega
    have HR:=aj (jg.out.done HCAP.out qM.out)
    clear hM hSw
    go_wp2
    go_ret
    exact HR.out
def Fz (L0:List (List (av)))(L1:List (bq))(L2:List (aV))(x3:Int)(a0:Option Addr)(c0:Nat)(a1:Option Addr)(c1:Nat)(a2:Option Addr)(c2:Nat)(T0:Nat→Prop)(T1:Nat→Prop)(T2:Nat→Prop)(k:Int)(W:World)(e:Ending)(w':World):Prop:=∃ z0 z1 z2:Int,∃ (y0:List (List (av)))(y1:List (bq))(y2:List (aV)),e=.returned (.int .i64 z2)∧(y0.length=L0.length∧jD (Sl au) y0 k z0∧z0=k+(bE ((Sl au)).cm L0:Nat)∧bG (Sl au) w' T0 y0 a0 c0)∧(y1.length=L1.length∧jD aS y1 z0 z1∧z1=z0+(bE (aS).cm L1:Nat)∧bG aS w' T1 y1 a1 c1)∧(y2.length=L2.length∧jD aM y2 z1 z2∧z2=z1+(bE (aM).cm L2:Nat)∧bG aM w' T2 y2 a2 c2)∧Off (fun q=>T0 q∨T1 q∨T2 q) W w'
theorem I4 {L0:List (List (av))}{L1:List (bq)}{L2:List (aV)}{x3:Int}{a0:Option Addr}{c0:Nat}{a1:Option Addr}{c1:Nat}{a2:Option Addr}{c2:Nat}{W:World}{T0:Nat→Prop}{T1:Nat→Prop}{T2:Nat→Prop}{k:Int}(h0:0≤k)(h1:k+(bE ((Sl au)).cm L0:Nat)+(bE (aS).cm L1:Nat)+(bE (aM).cm L2:Nat)≤4611686018427387904)(hS0:∀ q,T0 q→q<W.heap.size)(hS1:∀ q,T1 q→q<W.heap.size)(hS2:∀ q,T2 q→q<W.heap.size)(jP:∀ q,T0 q→T1 q→False)(jO:∀ q,T0 q→T2 q→False)(jN:∀ q,T1 q→T2 q→False)(dP:bG (Sl au) W T0 L0 a0 c0)(gM:bG aS W T1 L1 a1 c1)(gL:bG aM W T2 L2 a2 c2):Calls Tryz.prog 43 #[.agg #[.slice a0 L0.length c0,.slice a1 L1.length c1,.slice a2 L2.length c2,.int .i64 x3],.int .i64 k] W (Fz L0 L1 L2 x3 a0 c0 a1 c1 a2 c2 T0 T1 T2 k W):=by
 have Gw:=aj (show Off (fun q=>T0 q∨T1 q∨T2 q) W (W.alloc (.cells #[.slice a0 L0.length c0,.slice a1 L1.length c1,.slice a2 L2.length c2,.int .i64 x3] 39)) from (Off.refl _ _).alloc _)
 have hP:=aN.new W 39 #[.slice a0 L0.length c0,.slice a1 L1.length c1,.slice a2 L2.length c2,.int .i64 x3]
 have iF:=aj hP
 have hz0:W.heap.size<(W.alloc (.cells #[.slice a0 L0.length c0,.slice a1 L1.length c1,.slice a2 L2.length c2,.int .i64 x3] 39)).heap.size:=by simp
 clear hP
 have fE:=aj (bG.keep (aY ak) (W':=W.alloc (.cells #[.slice a0 L0.length c0,.slice a1 L1.length c1,.slice a2 L2.length c2,.int .i64 x3] 39)) dP (fun q hq=>Below.heap_alloc _ _ _ (hS0 q hq)))
 have zD:=aj hS0
 have pq:=aj (bG.keep aD (W':=W.alloc (.cells #[.slice a0 L0.length c0,.slice a1 L1.length c1,.slice a2 L2.length c2,.int .i64 x3] 39)) gM (fun q hq=>Below.heap_alloc _ _ _ (hS1 q hq)))
 have wX:=aj hS1
 have o9:=aj (bG.keep aB (W':=W.alloc (.cells #[.slice a0 L0.length c0,.slice a1 L1.length c1,.slice a2 L2.length c2,.int .i64 x3] 39)) gL (fun q hq=>Below.heap_alloc _ _ _ (hS2 q hq)))
 have HS2:=aj hS2
 have Dw:=aj jP
 have Dv:=aj jO
 have Du:=aj jN
 clear dP gM gL hS0 hS1 hS2 jP jO jN
 go_enter Tryz.func43,Tryz.ntmps43
 have hbz:0≤k∧k+(bE ((Sl au)).cm L0:Nat)≤4611686018427387904:=by omega
 go_wp2_with fail
 refine (Fb (W:=W.alloc (.cells #[.slice a0 L0.length c0,.slice a1 L1.length c1,.slice a2 L2.length c2,.int .i64 x3] 39)) hbz.1 hbz.2 (fun q hq=>iG (zD.out q hq) hz0) fE.out).mono ?_
 intro e w1 h
 obtain ⟨y0,z0,rfl,hyl,hmm,hzz,how,hoff⟩:=iO h
 have dh:=aj (aN.off iF.out hoff hz0 (fun hg=>jK _ (zD.out _ hg)))
 have Un:=aj (Gw.out.trans (hoff.more (fun q hq=>Or.inl hq)))
 have hz1:W.heap.size<w1.heap.size:=bV hz0 hoff.size
 have pq:=aj (pq.out.keep aD (fun q hq=>hoff.block q (iG (wX.out q hq) hz0) (fun hi=>Dw.out q hi hq)))
 have o9:=aj (o9.out.keep aB (fun q hq=>hoff.block q (iG (HS2.out q hq) hz0) (fun hi=>Dv.out q hi hq)))
 have fE:=aj how
 have Kc:=aj hmm
 have Ka:=aj hyl
 have vB:=aj hzz
 have hzn0:0≤z0∧z0≤4611686018427387904:=by omega
 clear h hyl hmm how hoff hzz hbz
 obtain ⟨vk,qH,nX⟩:=dh.out.o8 rfl
 have hbz:0≤z0∧z0+(bE (aS).cm L1:Nat)≤4611686018427387904:=by have q0:=vB.out;omega
 go_wp2_with fail
 refine (KZ (W:=w1) hbz.1 hbz.2 (fun q hq=>iG (wX.out q hq) hz1) pq.out).mono ?_
 intro e w2 h
 obtain ⟨y1,z1,rfl,hyl,hmm,hzz,how,hoff⟩:=iO h
 have iD:=aj (aN.off dh.out hoff hz1 (fun hg=>jK _ (wX.out _ hg)))
 have adY:=aj (Un.out.trans (hoff.more (fun q hq=>Or.inr (Or.inl hq))))
 have hz2:W.heap.size<w2.heap.size:=bV hz1 hoff.size
 have fE:=aj (fE.out.keep (aY ak) (fun q hq=>hoff.block q (iG (zD.out q hq) hz1) (fun hi=>Dw.out q hq hi)))
 have o9:=aj (o9.out.keep aB (fun q hq=>hoff.block q (iG (HS2.out q hq) hz1) (fun hi=>Du.out q hi hq)))
 have pq:=aj how
 have HMM1:=aj hmm
 have HYL1:=aj hyl
 have J9:=aj hzz
 have hzn1:0≤z1∧z1≤4611686018427387904:=by omega
 clear h hyl hmm how hoff hzz hbz
 obtain ⟨CJ,CG,zn⟩:=iD.out.o8 rfl
 have hbz:0≤z1∧z1+(bE (aM).cm L2:Nat)≤4611686018427387904:=by have q0:=vB.out;have q1:=J9.out;omega
 go_wp2_with fail
 refine (IX (W:=w2) hbz.1 hbz.2 (fun q hq=>iG (HS2.out q hq) hz2) o9.out).mono ?_
 intro e w3 h
 obtain ⟨y2,z2,rfl,hyl,hmm,hzz,how,hoff⟩:=iO h
 have iT:=aj (aN.off iD.out hoff hz2 (fun hg=>jK _ (HS2.out _ hg)))
 have Um:=aj (adY.out.trans (hoff.more (fun q hq=>Or.inr (Or.inr (hq)))))
 have hz3:W.heap.size<w3.heap.size:=bV hz2 hoff.size
 have fE:=aj (fE.out.keep (aY ak) (fun q hq=>hoff.block q (iG (zD.out q hq) hz2) (fun hi=>Dv.out q hq hi)))
 have pq:=aj (pq.out.keep aD (fun q hq=>hoff.block q (iG (wX.out q hq) hz2) (fun hi=>Du.out q hq hi)))
 have o9:=aj how
 have HMM2:=aj hmm
 have HYL2:=aj hyl
 have PI:=aj hzz
 have hzn2:0≤z2∧z2≤4611686018427387904:=by omega
 clear h hyl hmm how hoff hzz hbz
 obtain ⟨Eu,Et,Es⟩:=iT.out.o8 rfl
 go_wp2
 go_ret
 exact ⟨z0,z1,z2,y0,y1,y2,rfl,⟨Ka.out,Kc.out,vB.out,fE.out⟩,⟨HYL1.out,HMM1.out,J9.out,pq.out⟩,⟨HYL2.out,HMM2.out,PI.out,o9.out⟩,Um.out⟩
theorem KF:(aS).size=5:=rfl
theorem Lp {L:List (bq)}{a:Option Addr}{cap:Nat}{W:World}{k k':Int}(h0:0≤k)(h1:k'≤4611686018427387904)(hm:jD aS L k k')(h:aH aS W W.heap.size L a cap):Calls Tryz.prog 153 #[.slice a L.length cap,.int .i64 k] W (nD k' W):=by
 have hn:L.length≤9223372036854775807:=by have h1:=h.1;have h2:=h.2.1;unfold maxLen at h2;omega
 have H:=aj h
 have HM:=aj hm
 clear h hm
 go_enter Tryz.func153,Tryz.ntmps153
 go_wp2
 go_loopw [5,1] (fun i q wr=>∃ j:Nat,j≤L.length∧i=.int .i64 j∧(∃ z:Int,q=.int .i64 z∧0≤z∧jD aS (L.drop j) z k')∧Below W.heap.size W wr) (fun i _ _=>L.length-(intOf i).toNat)
 case atStart=>exact ⟨0,dX _,rfl,⟨k,rfl,h0,HM.out⟩,aU _ _⟩
 case round=>
  obtain ⟨j,hj,rfl,⟨z,rfl,hz,hmz⟩,hB⟩:=hrel
  have HB:=aj hB
  have hsz:=hB.size
  by_cases hlt:j<L.length
  ·obtain ⟨⟨⟨x0,x1⟩,⟨x2,x3⟩,x4⟩,hx⟩:=aL hlt
   obtain ⟨k1,hxm,hmn⟩:=jZ hx hmz
   have hzb:=eF oQ hmn
   have hxb:=oQ _ _ _ hxm
   obtain ⟨g,o,us,rfl,hg,hu,hr⟩:=(H.out.below aD hB).at_ hx
   have FN:=aj hmn
   have hi0:(0:Int)≤(j:Int):=eu _
   have hi1:(j:Int)<(L.length:Int):=by omega
   obtain rfl:=lu hr
   obtain ⟨rfl,rfl,rfl,rfl,rfl,hk1⟩:=VU hxm
   have e0:=cK hu 0 rfl
   have e1:=cK hu 1 rfl
   have e2:=cK hu 2 rfl
   have e3:=cK hu 3 rfl
   have e4:=cK hu 4 rfl
   simp only [KF] at e0 e1 e2 e3 e4
   simp only [←Nat.add_assoc,Nat.add_zero] at e0 e1 e2 e3 e4
   have hfin:k1≤4611686018427387904:=by omega
   have JN:=aj hk1
   clear hB hx hu hmz hmn hxm
   have HB2:=aj HB.out
   go_wp2
   go_roundw
   case rel=>exact ⟨j+1,by omega,by go_num,⟨_,rfl,by omega,by rw [←JN.out];exact FN.out⟩,HB2.out⟩
   case measure=>simp [intOf];omega
  ·obtain rfl:j=L.length:=by omega
   have HE:=aj (lD hmz)
   clear hmz hB
   go_wp2
   go_ret
   exact ⟨by rw [HE.out];rfl,HB.out⟩
theorem IJ:(aM).size=3:=rfl
theorem I9 {L:List (aV)}{a:Option Addr}{cap:Nat}{W:World}{k k':Int}(h0:0≤k)(h1:k'≤4611686018427387904)(hm:jD aM L k k')(h:aH aM W W.heap.size L a cap):Calls Tryz.prog 154 #[.slice a L.length cap,.int .i64 k] W (nD k' W):=by
 have hn:L.length≤9223372036854775807:=by have h1:=h.1;have h2:=h.2.1;unfold maxLen at h2;omega
 have H:=aj h
 have HM:=aj hm
 clear h hm
 go_enter Tryz.func154,Tryz.ntmps154
 go_wp2
 go_loopw [5,1] (fun i q wr=>∃ j:Nat,j≤L.length∧i=.int .i64 j∧(∃ z:Int,q=.int .i64 z∧0≤z∧jD aM (L.drop j) z k')∧Below W.heap.size W wr) (fun i _ _=>L.length-(intOf i).toNat)
 case atStart=>exact ⟨0,dX _,rfl,⟨k,rfl,h0,HM.out⟩,aU _ _⟩
 case round=>
  obtain ⟨j,hj,rfl,⟨z,rfl,hz,hmz⟩,hB⟩:=hrel
  have HB:=aj hB
  have hsz:=hB.size
  by_cases hlt:j<L.length
  ·obtain ⟨⟨⟨x0,x1⟩,x2⟩,hx⟩:=aL hlt
   obtain ⟨k1,hxm,hmn⟩:=jZ hx hmz
   have hzb:=eF mM hmn
   have hxb:=mM _ _ _ hxm
   obtain ⟨g,o,us,rfl,hg,hu,hr⟩:=(H.out.below aB hB).at_ hx
   have FN:=aj hmn
   have hi0:(0:Int)≤(j:Int):=eu _
   have hi1:(j:Int)<(L.length:Int):=by omega
   obtain rfl:=jo hr
   obtain ⟨rfl,rfl,rfl,hk1⟩:=QG hxm
   have e0:=cK hu 0 rfl
   have e1:=cK hu 1 rfl
   have e2:=cK hu 2 rfl
   simp only [IJ] at e0 e1 e2
   simp only [←Nat.add_assoc,Nat.add_zero] at e0 e1 e2
   have hfin:k1≤4611686018427387904:=by omega
   have JN:=aj hk1
   clear hB hx hu hmz hmn hxm
   have HB2:=aj HB.out
   go_wp2
   go_roundw
   case rel=>exact ⟨j+1,by omega,by go_num,⟨_,rfl,by omega,by rw [←JN.out];exact FN.out⟩,HB2.out⟩
   case measure=>simp [intOf];omega
  ·obtain rfl:j=L.length:=by omega
   have HE:=aj (lD hmz)
   clear hmz hB
   go_wp2
   go_ret
   exact ⟨by rw [HE.out];rfl,HB.out⟩
theorem Jc {L0:List (List (av))}{L1:List (bq)}{L2:List (aV)}{x3:Int}{a0:Option Addr}{c0:Nat}{a1:Option Addr}{c1:Nat}{a2:Option Addr}{c2:Nat}{W:World}{k:Int}{z0:Int}{z1:Int}{z2:Int}(h0:0≤k)(h1:z2≤4611686018427387904)(hm0:jD (Sl au) L0 k z0)(hm1:jD aS L1 z0 z1)(hm2:jD aM L2 z1 z2)(dP:aH (Sl au) W W.heap.size L0 a0 c0)(gM:aH aS W W.heap.size L1 a1 c1)(gL:aH aM W W.heap.size L2 a2 c2):Calls Tryz.prog 93 #[.agg #[.slice a0 L0.length c0,.slice a1 L1.length c1,.slice a2 L2.length c2,.int .i64 x3],.int .i64 k] W (nD z2 W):=by
 have jL:=aj dP
 have pF:=aj gM
 have pE:=aj gL
 have HM0:=aj hm0
 have hl0:=eF (AA eX) hm0
 have FD:=aj hm1
 have hl1:=eF oQ hm1
 have jg:=aj hm2
 have hl2:=eF mM hm2
 clear dP gM gL hm0 hm1 hm2
 have HB0:=aj (show Below W.heap.size W (W.alloc (.cells #[.slice a0 L0.length c0,.slice a1 L1.length c1,.slice a2 L2.length c2,.int .i64 x3] 39)) from (aU _ _).alloc (bK _) _)
 have hP:=aN.new W 39 #[.slice a0 L0.length c0,.slice a1 L1.length c1,.slice a2 L2.length c2,.int .i64 x3]
 have iF:=aj hP
 have hz0:W.heap.size≤(W.alloc (.cells #[.slice a0 L0.length c0,.slice a1 L1.length c1,.slice a2 L2.length c2,.int .i64 x3] 39)).heap.size:=HB0.out.size
 clear hP
 go_enter Tryz.func93,Tryz.ntmps93
 go_wp2_with fail
 refine (Fu (k:=k) (k':=z0) (by omega) (by omega) HM0.out ((jL.out.below (aY ak) HB0.out).more (aY ak) hz0)).mono ?_
 intro e w1 h
 obtain ⟨rfl,hb⟩:=eT h
 have dh:=aj (iF.out.call hb)
 have HB1:=aj (HB0.out.trans (hb.mono hz0))
 have hz1:W.heap.size≤w1.heap.size:=HB1.out.size
 clear h hb
 obtain ⟨vk,qH,nX⟩:=dh.out.o8 rfl
 have Dp:(0:Int)≤z0:=by omega
 go_wp2_with fail
 refine (Lp (k:=z0) (k':=z1) (by omega) (by omega) FD.out ((pF.out.below aD HB1.out).more aD hz1)).mono ?_
 intro e w2 h
 obtain ⟨rfl,hb⟩:=eT h
 have iD:=aj (dh.out.call hb)
 have HB2:=aj (HB1.out.trans (hb.mono hz1))
 have hz2:W.heap.size≤w2.heap.size:=HB2.out.size
 clear h hb
 obtain ⟨CJ,CG,zn⟩:=iD.out.o8 rfl
 have aax:(0:Int)≤z1:=by omega
 go_wp2_with fail
 refine (I9 (k:=z1) (k':=z2) (by omega) (by omega) jg.out ((pE.out.below aB HB2.out).more aB hz2)).mono ?_
 intro e w3 h
 obtain ⟨rfl,hb⟩:=eT h
 have iT:=aj (iD.out.call hb)
 have HB3:=aj (HB2.out.trans (hb.mono hz2))
 have hz3:W.heap.size≤w3.heap.size:=HB3.out.size
 clear h hb
 obtain ⟨Eu,Et,Es⟩:=iT.out.o8 rfl
 have TT:(0:Int)≤z2:=by omega
 go_wp2
 go_ret
 exact ⟨rfl,HB3.out⟩
theorem BU {L0:List (List (av))}{L1:List (bq)}{L2:List (aV)}{x3:Int}:bZ.cv (L0,L1,L2,x3)=bE ((Sl au)).cm L0+bE (aS).cm L1+bE (aM).cm L2:=by
 simp only [bZ,Pr,Sl,I,Bo,atom];omega
end
section
open Go.RowKit bN bP Go.ChangeShapes
theorem U6:Tryz.prog.cellsOf 179=5:=by kernel_rfl
theorem VD:zC aS 179:=fun enc W fuel cs y h=>by
 obtain ⟨xs,n,_,_,hl,hlen,hf⟩:=DataW.trod_struct Tryz.underlying179 h
 rw [U6] at hl
 match cs,hl with
 | [c0,c1,c2,c3,c4],_=>
  have e2:xs.length=3:=hlen
  match xs,e2 with
  | [y0,y1,y2],_=>
   have g0:=qG hf 0 33 0 2 rfl nI
   have g1:=qG hf 1 33 2 2 rfl nI
   have g2:=qG hf 2 2 4 1 rfl fI
   obtain ⟨d0,h0⟩:=kF enc W n [c0,c1] y0 g0
   obtain ⟨d1,h1⟩:=kF enc W n [c2,c3] y1 g1
   obtain ⟨d2,h2⟩:=fH enc W n [c4] y2 g2
   exact ⟨(d0,d1,d2),⟨[c0,c1],[c2,c3,c4],rfl,h0,⟨[c2,c3],[c4],rfl,h1,h2⟩⟩⟩
theorem ZO:Tryz.prog.cellsOf 23=1:=by kernel_rfl
theorem Qy:zC (Sl aS) 23:=pJ VD (by decide) Tryz.underlying23 U6
theorem OB:Tryz.prog.cellsOf 184=3:=by kernel_rfl
theorem Qx:zC aM 184:=fun enc W fuel cs y h=>by
 obtain ⟨xs,n,_,_,hl,hlen,hf⟩:=DataW.trod_struct Tryz.underlying184 h
 rw [OB] at hl
 match cs,hl with
 | [c0,c1,c2],_=>
  have e2:xs.length=2:=hlen
  match xs,e2 with
  | [y0,y1],_=>
   have g0:=qG hf 0 33 0 2 rfl nI
   have g1:=qG hf 1 2 2 1 rfl fI
   obtain ⟨d0,h0⟩:=kF enc W n [c0,c1] y0 g0
   obtain ⟨d1,h1⟩:=fH enc W n [c2] y1 g1
   exact ⟨(d0,d1),⟨[c0,c1],[c2],rfl,h0,h1⟩⟩
theorem WM:Tryz.prog.cellsOf 24=1:=by kernel_rfl
theorem KO:zC (Sl aM) 24:=pJ Qx (by decide) Tryz.underlying24 OB
theorem Im:Tryz.prog.cellsOf 26=4:=by kernel_rfl
theorem KQ:zC bZ 26:=fun enc W fuel cs y h=>by
 obtain ⟨xs,n,_,_,hl,hlen,hf⟩:=DataW.trod_struct Tryz.underlying26 h
 rw [Im] at hl
 match cs,hl with
 | [c0,c1,c2,c3],_=>
  have e2:xs.length=4:=hlen
  match xs,e2 with
  | [y0,y1,y2,y3],_=>
   have g0:=qG hf 0 22 0 1 rfl Rj
   have g1:=qG hf 1 23 1 1 rfl ZO
   have g2:=qG hf 2 24 2 1 rfl WM
   have g3:=qG hf 3 2 3 1 rfl fI
   obtain ⟨d0,h0⟩:=IV enc W n [c0] y0 g0
   obtain ⟨d1,h1⟩:=Qy enc W n [c1] y1 g1
   obtain ⟨d2,h2⟩:=KO enc W n [c2] y2 g2
   obtain ⟨d3,h3⟩:=fH enc W n [c3] y3 g3
   exact ⟨(d0,d1,d2,d3),⟨[c0],[c1,c2,c3],rfl,h0,⟨[c1],[c2,c3],rfl,h1,⟨[c2],[c3],rfl,h2,h3⟩⟩⟩⟩
end
section
open Go.RowKit bN bP
theorem iK (y0 y1 x0 x1:Int)(b:Bool)(hb:decide (((y0,y1):Int×Int)=(x0,x1))=b):∀ w,(binOp .eql 49 (.agg #[.int .i64 y0,.int .i64 y1]) (.agg #[.int .i64 x0,.int .i64 x1])).run Tryz.prog w=.ok (.bool b) w:=by
 intro w
 subst hb
 go_simp
 repeat' split
 all_goals simp_all
theorem wh (y0 y1 x0 x1:Int)(b:Bool)(hb:decide (((y0,y1):Int×Int)=(x0,x1))=b):∀ w,(binOp .neq 49 (.agg #[.int .i64 y0,.int .i64 y1]) (.agg #[.int .i64 x0,.int .i64 x1])).run Tryz.prog w=.ok (.bool (!b)) w:=by
 intro w
 subst hb
 go_simp
 repeat' split
 all_goals simp_all
theorem rV {p:Prop}(b:Bool)(h:b=true↔p):(b=true∧p)∨(b=false∧¬p):=by cases b <;> simp_all
end
end Go.Proofs.YtlhfiapfncikdaaGreatDoor.aP
