import Derived.Test.YtlhfiapfncikdaaGreatDoorPN12
import Derived.Test.YtlhfiapfncikdaaGreatDoorPN13
set_option linter.unusedVariables false
set_option linter.unusedSimpArgs false
set_option maxRecDepth 100000
set_option maxHeartbeats 3200000
namespace Go.Proofs.YtlhfiapfncikdaaGreatDoor
namespace aQ
section
open Go.RowKit bN bO bJ bQ eO
def vM (x:bI):List Value:=[.int .i64 x.1.1,.int .i64 x.1.2,.string x.2.1,.int .i64 x.2.2]
theorem WL (M:List bI):(M.flatMap vM).length=M.length*4:=by
 induction M with
 | nil=>rfl
 | cons x xs ih=>
  rw [List.flatMap_cons,List.length_append,ih,List.length_cons]
  show 4+_=_
  omega
theorem OW:∀ (xs:List bI)(i j:Nat)(x:bI)(c:Value),xs[i]? = some x→(vM x)[j]? = some c→(xs.flatMap vM)[i*4+j]? = some c
 | [],i,j,x,c,h,_=>by simp at h
 | y::ys,0,j,x,c,h,hc=>by
  simp at h
  subst h
  rw [List.flatMap_cons,Nat.zero_mul,Nat.zero_add,List.getElem?_append_left (List.getElem?_eq_some_iff.1 hc).1]
  exact hc
 | y::ys,i+1,j,x,c,h,hc=>by
  have h1:=OW ys i j x c (by simpa using h) hc
  have hl:(vM y).length=4:=rfl
  rw [List.flatMap_cons,List.getElem?_append_right (by omega),hl,show (i+1)*4+j-4=i*4+j by omega]
  exact h1
theorem Ca {w:World}{g:Nat}:∀ (M:List bI)(b:Nat),(∀ i x,M[i]? = some x→aR w g (b+i*4) (vM x))→aR w g b (M.flatMap vM)
 | [],b,_=>aR.nil
 | y::ys,b,hc=>by
  have hy:(vM y).length=4:=rfl
  rw [List.flatMap_cons]
  refine aR.app.2 ⟨by simpa using hc 0 y rfl,?_⟩
  rw [hy]
  refine Ca ys _ fun i x hx=>?_
  have:=hc (i+1) x (by simpa using hx)
  rw [show b+4+i*4=b+(i+1)*4 by omega]
  exact this
theorem WK (M:List bI):∀ u∈M.flatMap vM,u.oneCell'=true:=fun u hu=>by
 obtain ⟨x,_,h⟩:=List.mem_flatMap.1 hu
 simp [vM] at h
 rcases h with rfl | rfl | rfl | rfl <;> rfl
theorem U8 {W:World}{B:Nat}{x:bI}{us:List Value}(h:bC.rd W B x us):us=vM x∧x.2.1.size≤maxLen:=by
 obtain ⟨⟨x0,x1⟩,x2,x3⟩:=x
 exact ku h
theorem FI {P:Program}{w:World}{base:Nat}{t ty e:TypeId}{i:TypeInfo}{size:Nat}(ht:P.underlying t=some (.slice e))(hi:P.info? e=some i){v:Value}{n:Nat}{xs:List Value}(hown:w.ownsRow base e size v n xs)(c:Nat) :
 (Builtin.append_ #[t,t] ty #[v,.slice none 0 c]).run P w=.ok v w:=by
 rcases hown.2 with ⟨rfl,rfl⟩ | ⟨g,cap,cur,rfl,_,_,hnc,_⟩
 ·simp [Builtin.append_,run_underlying ht,sizeOf,typeInfo,hi,Builtin.lenOf,Builtin.firstCells]
 ·simp [Builtin.append_,run_underlying ht,sizeOf,typeInfo,hi,Builtin.lenOf,Builtin.firstCells,hnc,storeCells]
theorem lq.more {w:World}{lo:Nat}{v:Value}{L:List bI}(h:lq w lo v L){M:List bI}{a:Option Addr}{cap:Nat}(hM:aJ bC w w.heap.size M a cap)(hL:L.length+M.length≤2000000) :
 ∃ v' w',(Builtin.append_ #[42,42] 42 #[v,.slice a M.length cap]).run Tryz.prog w=.ok v' w'∧lq w' lo v' (L++M)∧Below lo w w':=by
 obtain ⟨xs,hi,h0,h1⟩:=h
 obtain ⟨i,hi',hz,hsz,hby⟩:=Ih
 have hlo:lo≤w.heap.size:=eF h0 h1.le
 cases a with
 | none=>
  have hm0:M = []:=by
   cases M with
   | nil=>rfl
   | cons y ys=>obtain ⟨g,o,ha,_⟩:=hM.2.2 (by simp);cases ha
  subst hm0
  exact ⟨v,w,FI Tryz.underlying42 hi' h1.own cap,⟨xs,hi,h0,by simpa using h1⟩,aW _ _⟩
 | some x=>
  have hcells:∀ j u,(M.flatMap vM)[j]? = some u→w.cell? (x.add j)=some u:=fun j u hj=>by
   cases M with
   | nil=>simp at hj
   | cons y ys=>
    obtain ⟨g,o,ha,hg,hel⟩:=hM.2.2 (by simp)
    cases ha
    have hall:=Ca (g:=g) (w:=w) (y::ys) o fun i x hx=>by
     obtain ⟨us,hu,hr⟩:=hel i x hx
     rw [←(U8 hr).1]
     exact hu
    have hadd:(⟨g,o,none⟩:Addr).add j=⟨g,o+j,none⟩:=by unfold Addr.add;split <;> simp_all
    rw [hadd]
    exact hall j u hj
  obtain ⟨v',w',hrun,hown,hgr,_,hat⟩:=run_append_own_at (P:=Tryz.prog) w lo 42 42 128 i _ 4 40 Tryz.underlying42 hi' hz hsz hby rfl (by decide) v L.length _ h1.own x M.length cap (M.flatMap vM) (WL M) hcells (WK M) (by unfold maxLen;omega) (by omega) hlo
  have hbl:∀ k,v'.ownBlock=some k→lo≤k∧k<w'.heap.size:=fun k hk=>by
   rcases hown.2 with ⟨hn,_⟩ | ⟨g,cap',cur,hv,Te,hgg,_⟩
   ·rw [hn] at hk;cases hk
   ·rw [hv] at hk
    cases hk
    exact ⟨Te,(Array.getElem?_eq_some_iff.1 hgg).1⟩
  have hxl:xs.length=L.length*4:=h1.own.1
  refine ⟨v',w',hrun,⟨xs++M.flatMap vM,w'.heap.size,eF hlo hgr.size,⟨by rw [List.length_append];exact hown,fun q y hy=>?_,fun _ _ h=>h.elim,fun _ _ _ _ h=>h.elim,hbl,bK _⟩⟩,WG hgr (fun k hk=>(h1.blk k hk).1) hlo⟩
  by_cases hq:q<L.length
  ·rw [List.getElem?_append_left hq] at hy
   obtain ⟨vs,h2,h3⟩:=h1.el q y hy
   refine ⟨vs,fun j d hj=>?_,aU.bT h3 fun k hk=>hk.elim⟩
   have h4:=h2 j d hj
   rw [List.getElem?_append_left (List.getElem?_eq_some_iff.1 h4).1]
   exact h4
  ·rw [List.getElem?_append_right (by omega)] at hy
   have hlt:q-L.length<M.length:=(List.getElem?_eq_some_iff.1 hy).1
   obtain ⟨g,o,ha,hg,hel⟩:=hM.2.2 (by omega)
   obtain ⟨us,hu,hr⟩:=hel _ _ hy
   have hb:=(U8 hr).2
   refine ⟨vM y,fun j d hj=>?_,?_⟩
   ·rw [show bC.size=4 from rfl,List.getElem?_append_right (by rw [hxl];omega),hxl,show q*4+j-L.length*4=(q-L.length)*4+j by omega]
    exact OW M _ j y d hy hj
   ·obtain ⟨⟨y0,y1⟩,y2,y3⟩:=y
    exact Bn hb
theorem RJ {L:List bI}{a:Option Addr}{cap:Nat}{W:World}(hn:L.length≤2000000)(h:aJ bC W W.heap.size L a cap) :
 Calls Tryz.prog 212 #[.slice a L.length cap] W (fun e w'=>∃ v,e=.returned v∧lq w' W.heap.size v L∧Below W.heap.size W w'):=by
 have qT:∀ (w:World) (a:Option Addr) (n c n' c':Nat),(binOp .eql 42 (.slice a n c) (.slice none n' c')).run Tryz.prog w=.ok (.bool a.isNone) w:=fun w a n c n' c'=>Lib.run_eql_slice_nil w _ _ a n c n' c' Tryz.underlying42
 cases a with
 | none=>
  have h0:L.length=0:=by
   by_cases hp:0<L.length
   ·obtain ⟨g,o,he,_⟩:=h.2.2 hp
    cases he
   ·omega
  have hL:L = []:=List.eq_nil_of_length_eq_zero h0
  subst hL
  go_enter Tryz.func212,Tryz.ntmps212
  go_wp2
  go_ret
  exact ⟨_,rfl,lq.none_ W,aW _ _⟩
 | some x=>
  have iE:Below W.heap.size W (W.alloc (.cells #[] 128)):=(aW _ _).alloc (bK _) _
  obtain ⟨v',w',hr,hrow,hb⟩:=(lq.made W).more ((h.below aU iE).more aU iE.size) (by simpa using hn)
  have HR:=ak hr
  have HO:=ak (show lq w' W.heap.size v' L from by simpa using hrow)
  have HB:=ak (iE.trans hb)
  clear hr hrow hb h iE
  go_enter Tryz.func212,Tryz.ntmps212
  go_wp2_with (at_builtin;refine dZ rfl (.tmp 5) (.tmp 6) 42 rfl rfl rfl HR.out ?_)
  go_ret
  exact ⟨_,rfl,HO.out,HB.out⟩
end
section
open Go.RowKit bN bO bJ bQ
theorem rZ {w:World}{g:Nat}{v0 v1 v2 v3 v4 v5 v6 v7:Value}{t:TypeId}(h:aO w g t #[.slice none 0 0,.slice none 0 0,.slice none 0 0,.int .i64 0,.slice none 0 0,.slice none 0 0,.slice none 0 0,.int .i64 0]):aO ((((((((w.setCell ⟨g,0,none⟩ v0).setCell ⟨g,1,none⟩ v1).setCell ⟨g,2,none⟩ v2).setCell ⟨g,3,none⟩ v3).setCell ⟨g,4,none⟩ v4).setCell ⟨g,5,none⟩ v5).setCell ⟨g,6,none⟩ v6).setCell ⟨g,7,none⟩ v7) g t #[v0,v1,v2,v3,v4,v5,v6,v7]:=aO.as ((((((((h.set 0 v0).set 1 v1).set 2 v2).set 3 v3).set 4 v4).set 5 v5).set 6 v6).set 7 v7) (by kernel_rfl)
theorem rY (w:World)(g:Nat)(v0 v1 v2 v3 v4 v5 v6 v7:Value):Off (fun x=>x=g) w ((((((((w.setCell ⟨g,0,none⟩ v0).setCell ⟨g,1,none⟩ v1).setCell ⟨g,2,none⟩ v2).setCell ⟨g,3,none⟩ v3).setCell ⟨g,4,none⟩ v4).setCell ⟨g,5,none⟩ v5).setCell ⟨g,6,none⟩ v6).setCell ⟨g,7,none⟩ v7):=(((((((((Off.refl (fun x=>x=g) w).setCell (p:=⟨g,0,none⟩) rfl v0).setCell (p:=⟨g,1,none⟩) rfl v1).setCell (p:=⟨g,2,none⟩) rfl v2).setCell (p:=⟨g,3,none⟩) rfl v3).setCell (p:=⟨g,4,none⟩) rfl v4).setCell (p:=⟨g,5,none⟩) rfl v5).setCell (p:=⟨g,6,none⟩) rfl v6).setCell (p:=⟨g,7,none⟩) rfl v7)
theorem zL {P:Program}{w:World}{t ty e:TypeId}{i:TypeInfo}(ht:P.underlying t=some (.slice e))(hi:P.info? e=some i)(b:Addr){a:Option Addr}{n cap:Nat}(h0:0<n)(hn:¬n*i.bytes > 281474976710656) :
 (Builtin.append_ #[t,t] ty #[.slice (some b) 0 0,.slice a n cap]).run P w=(Builtin.append_ #[t,t] ty #[.slice none 0 0,.slice a n cap]).run P w:=by
 have hc:Builtin.nextslicecap n 0=n:=by unfold Builtin.nextslicecap;rw [if_pos (by omega)]
 have hn':¬281474976710656<n*i.bytes:=hn
 have hl:∀ w',(loadCellsFrom b 0 0 #[]).run P w'=.ok #[] w':=fun w'=>by simp [loadCellsFrom]
 simp [Builtin.append_,run_underlying ht,sizeOf,typeInfo,hi,Builtin.lenOf,Builtin.firstCells,loadCells,hc,hn',hl,Nat.ne_of_gt h0]
theorem FJ {P:Program}{w:World}{t ty e:TypeId}{i:TypeInfo}(ht:P.underlying t=some (.slice e))(hi:P.info? e=some i)(b:Addr){a:Option Addr}{cap:Nat} :
 (Builtin.append_ #[t,t] ty #[.slice (some b) 0 0,.slice a 0 cap]).run P w=.ok (.slice (some b) 0 0) w:=by
 cases a <;> simp [Builtin.append_,run_underlying ht,sizeOf,typeInfo,hi,Builtin.lenOf,Builtin.firstCells,loadCells,loadCellsFrom,storeCells]
theorem wT {M:List bI}{a:Option Addr}{cap:Nat}{w:World}(b:Addr)(hM:M.length≤1048576)(h:aJ bC w w.heap.size M a cap) :
 ∃ a' c' w',(Builtin.append_ #[42,42] 42 #[.slice (some b) 0 0,.slice a M.length cap]).run Tryz.prog w=.ok (.slice a' M.length c') w'∧bH bC w' (Rg w.heap.size w'.heap.size) M a' c'∧Below w.heap.size w w':=by
 obtain ⟨i,hi',hz,hs,hby⟩:=Ih
 by_cases h0:0<M.length
 ·obtain ⟨v',w',hr,hrow,hb⟩:=(lq.none_ w).more h (by simpa using eF hM (by decide))
  obtain ⟨a',c',e,ho,_⟩:=bL (lq.news (L:=M) (by simpa using hrow) (bK _) hb)
  cases e
  exact ⟨a',c',w',(zL Tryz.underlying42 hi' b h0 (by rw [hby];omega)).trans hr,ho,hb⟩
 ·obtain rfl:M = []:=List.eq_nil_of_length_eq_zero (by omega)
  exact ⟨some b,0,w,FJ Tryz.underlying42 hi' b,⟨bK _,dV _,fun h=>absurd h (jH _)⟩,aW _ _⟩
theorem rV {W w w':World}{C:List (List ay)}{P:List bA}{Q:List aX}{hf:Int}{N:List aP}{T:List aF}{U:List bI}{now:Int}{cs:List Value}{na ta ua:Option Addr}{nc tc uc:Nat}{b c0 c1 n0 n1 t0 t1 u0 u1:Nat}
 (hd:W.heap.size≤b∧b<c0∧b<n0∧b<t0∧b<u0∧c1≤w.heap.size∧n1≤w.heap.size∧t1≤w.heap.size∧u1≤w.heap.size∧(c1≤n0∨n1≤c0)∧(c1≤t0∨t1≤c0)∧(c1≤u0∨u1≤c0)∧(n1≤t0∨t1≤n0)∧(n1≤u0∨u1≤n0)∧(t1≤u0∨u1≤t0))
 (ho:Off (fun x=>x=b) w w') (hC:cu.ow w (Rg c0 c1) (C,P,Q,hf) cs) (hN:bH aL w (Rg n0 n1) N na nc) (hT:bH aI w (Rg t0 t1) T ta tc) (hU:bH bC w (Rg u0 u1) U ua uc) :
 bW.ow w' (Rg W.heap.size w'.heap.size) ((C,P,Q,hf),N,T,U,now) (cs++[.slice na N.length nc,.slice ta T.length tc,.slice ua U.length uc,.int .i64 now]):=by
 have hs:=ho.size
 have hk:∀ x y:Nat,b<x→y≤w.heap.size→∀ q,Rg x y q→w'.heap[q]? = w.heap[q]?:=fun x y h1 h2 q hq=>ho.block q (bV hq.2 h2) (by have:=hq.1;omega)
 refine EU (SC:=Rg c0 c1) (SN:=Rg n0 n1) (ST:=Rg t0 t1) (SU:=Rg u0 u1) ?_ ?_ ?_ ?_ ?_ ?_ ?_ ?_ ?_ ?_ (bX.bT hC (hk _ _ (by omega) (by omega))) (hN.keep aK (hk _ _ (by omega) (by omega))) (hT.keep aA (hk _ _ (by omega) (by omega))) (hU.keep aU (hk _ _ (by omega) (by omega)))
 all_goals first | (intro k h;exact ⟨by have:=h.1;omega,by have:=h.2;omega⟩) | (intro k h h';have h1:=h.1;have h2:=h.2;have h3:=h'.1;have h4:=h'.2;omega)
end
end aQ
end Go.Proofs.YtlhfiapfncikdaaGreatDoor
