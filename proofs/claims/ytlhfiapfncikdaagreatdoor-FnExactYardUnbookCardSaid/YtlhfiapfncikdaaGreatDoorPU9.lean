import Derived.Test.YtlhfiapfncikdaaGreatDoorPU7
import Derived.Test.YtlhfiapfncikdaaGreatDoorPU8
set_option linter.unusedVariables false
set_option linter.unusedSimpArgs false
set_option maxRecDepth 100000
set_option maxHeartbeats 3200000
namespace Go.Proofs.YtlhfiapfncikdaaGreatDoor.aP
section
open Go.RowKit bN bP bJ bM Cx
noncomputable def CW (C:List (List av))(P:List bq)(Q:List aV)(hf:Int):Bool:=by classical exact decide (oo C P Q hf)
theorem kQ {C:List (List av)}{P:List bq}{Q:List aV}{hf:Int}:CW C P Q hf=true↔oo C P Q hf:=by unfold CW;simp
noncomputable def yt (C:List (List av))(P:List bq)(Q:List aV)(hf:Int):List av:=if CW C P Q hf then iw C else []
def gZ (C:List (List av))(a:av)(n:Nat):List Int:=((List.range n).filter (fun i=>decide (∃ x,C[i]? = some x∧a∈x))).map (fun i:Nat=>(i:Int))
def gI (C:List (List av))(a:av):List Int:=gZ C a C.length
theorem yJ {C:List (List av)}{a:av}{k:Nat}{x:List av}(hx:C[k]? = some x)(h:a∈x):gZ C a (k+1)=gZ C a k++[(k:Int)]:=by
 unfold gZ
 rw [List.range_succ,List.filter_append,List.map_append]
 simp only [List.filter_cons,decide_eq_true (show ∃ x,C[k]? = some x∧a∈x from ⟨x,hx,h⟩),List.filter_nil,if_true,List.map_cons,List.map_nil]
theorem BG {C:List (List av)}{a:av}{k:Nat}{x:List av}(hx:C[k]? = some x)(h:a ∉ x):gZ C a (k+1)=gZ C a k:=by
 unfold gZ
 rw [List.range_succ,List.filter_append,List.map_append]
 have hn:decide (∃ x,C[k]? = some x∧a∈x)=false:=dU fun ⟨y,hy,hm⟩=>by rw [hx] at hy;obtain rfl:=fB hy;exact h hm
 simp only [List.filter_cons,hn,List.filter_nil,Bool.false_eq_true,if_false,List.map_nil,List.append_nil]
theorem qV (C:List (List av))(a:av)(n:Nat):(gZ C a n).length≤n:=by
 unfold gZ
 rw [List.length_map]
 exact eH (List.length_filter_le _ _) (by simp)
def gH (Q:List aV)(a:av):Int:=match Q.find? (fun q=>decide (q.1=a)) with
 | some q=>q.2
 | none=>6
noncomputable def AL (C:List (List av))(P:List bq)(Q:List aV)(hf:Int)(a:av):Int:=by classical exact if a∈yt C P Q hf then gH Q a else 0
theorem yI {Q:List aV}{a:av}{k:Nat}{x:aV}(hx:Q[k]? = some x)(hh:x.1=a)(ha:∀ (q:Nat) y,q<k→Q[q]? = some y→y.1≠a):gH Q a=x.2:=by
 have h:Q.find? (fun q=>decide (q.1=a))=some x:=by
  rw [List.find?_eq_some_iff_getElem]
  obtain ⟨hk,hxe⟩:=List.getElem?_eq_some_iff.1 hx
  refine ⟨eO hh,k,hk,hxe,fun j hj=>?_⟩
  have:=ha j Q[j] hj (List.getElem?_eq_getElem _)
  simpa using this
 unfold gH
 rw [h]
theorem wM {Q:List aV}{a:av}(ha:∀ (q:Nat) y,Q[q]? = some y→y.1≠a):gH Q a=6:=by
 have h:Q.find? (fun q=>decide (q.1=a))=none:=by
  rw [List.find?_eq_none]
  intro x hx
  obtain ⟨i,hi⟩:=List.getElem?_of_mem hx
  simpa using ha i x hi
 unfold gH
 rw [h]
theorem yO {C:List (List av)}{P:List bq}{Q:List aV}{hf:Int}{ca pa qa:Option Addr}{cc pc qc:Nat}{W:World}(hC:aH (Sl au) W W.heap.size C ca cc)(hP:aH aS W W.heap.size P pa pc)(hQ:aH aM W W.heap.size Q qa qc) :
 Calls Tryz.prog 98 #[.agg #[.slice ca C.length cc,.slice pa P.length pc,.slice qa Q.length qc,.int .i64 hf]] W (sD (CW C P Q hf) W):=by
 obtain ⟨z,hz⟩:∃ z,CW C P Q hf=z:=⟨_,rfl⟩
 have HZ:=aj (show z=true↔oo C P Q hf from by rw [←hz];exact kQ)
 rw [hz]
 clear hz
 refine Calls.mono ?_ fun e w' h=>Nr HZ.out h
 obtain ⟨zh,hzh⟩:∃ z,dI hf 1 9=z:=⟨_,rfl⟩
 have HH:=aj hzh
 clear hzh HZ
 obtain ⟨M,hM⟩:∃ M,iw C=M:=⟨_,rfl⟩
 have HMr:=aj (show ∀ a∈M,dD.rP a.1 a.2 from by rw [←hM];exact fun a ha=>(Bf.1 ha).1)
 have HMs:=aj (show M.Pairwise uj from by rw [←hM];exact qW C 32)
 have HM:=aj hM
 clear hM
 obtain ⟨w0,hw0⟩:∃ w,w=W.alloc (.cells #[.slice ca C.length cc,.slice pa P.length pc,.slice qa Q.length qc,.int .i64 hf] 39):=⟨_,rfl⟩
 have hb0:Below W.heap.size W w0:=by rw [hw0];exact (aU _ _).alloc (bK _) _
 have x0:aN w0 (W.heap.size) 39 #[.slice ca C.length cc,.slice pa P.length pc,.slice qa Q.length qc,.int .i64 hf]:=by
  have h9:=aN.new W 39 #[.slice ca C.length cc,.slice pa P.length pc,.slice qa Q.length qc,.int .i64 hf]
  try simp only [World.size_alloc] at h9
  rw [hw0];exact h9
 have X0:=aj x0
 have HC:=aj (aC (aY ak) hC hb0)
 have HP:=aj (aC aD hP hb0)
 have HQ:=aj (aC aB hQ hb0)
 have HB0:=aj hb0
 have hz0:=hb0.size
 clear hb0 hC hP hQ x0
 go_enter Tryz.func98,Tryz.ntmps98
 obtain ⟨dB,dA,dz,dx⟩:=X0.out.jG rfl
 go_wp2_with fail
 rw [←hw0]
 clear hw0
 refine (LU HC.out).mono ?_
 intro e v1 h
 obtain ⟨z1,rfl,hz1,hb1⟩:=bA h
 have HZ1:=aj hz1
 have HC:=aj (aC (aY ak) HC.out hb1)
 have HP:=aj (aC aD HP.out hb1)
 have HQ:=aj (aC aB HQ.out hb1)
 have X0:=aj (X0.out.call hb1)
 have HB0:=aj (HB0.out.trans (hb1.mono HB0.out.size))
 clear h hz1 hb1 dB dA dz dx
 obtain ⟨dB,dA,dz,dx⟩:=X0.out.jG rfl
 cases z1 with
 | false=>
  have HN:=aj (show ¬oo C P Q hf from fun h=>by have:=HZ1.out.2 (h.1);cases this)
  go_wp2
  go_ret
  exact aA HN.out HB0.out
 | true=>
 have HY1:=aj (HZ1.out.1 rfl)
 go_wp2_with fail
 refine (oH _ _ _ HH.out _).mono ?_
 rintro e w9 ⟨rfl,rfl⟩
 cases zh with
 | false=>
  have HN:=aj (show ¬oo C P Q hf from fun h=>by have:=h.2.1;rw [HH.out] at this;cases this)
  go_wp2
  go_ret
  exact aA HN.out HB0.out
 | true=>
 go_wp2_with fail
 have hlb:=xV HC.out
 rw [HM.out] at hlb
 refine hlb.mono ?_
 intro e v2 h
 obtain ⟨la,lc,rfl,ho,hb2⟩:=bI h
 have HL:=aj (ho.rd ak (B:=v2.heap.size) fun k hk=>hk.2)
 have HC:=aj (aC (aY ak) HC.out hb2)
 have HP:=aj (aC aD HP.out hb2)
 have HQ:=aj (aC aB HQ.out hb2)
 have X0:=aj (X0.out.call hb2)
 have HB0:=aj (HB0.out.trans (hb2.mono HB0.out.size))
 clear h ho hlb hb2 dB dA dz dx
 obtain ⟨dB,dA,dz,dx⟩:=X0.out.jG rfl
 by_cases h8:M.length≤8
 rotate_left
 ·have hd:decide ((M.length:Int)≤8)=false:=dU (by omega)
  have hd':decide (M.length≤8)=false:=dU h8
  have HN:=aj (show ¬oo C P Q hf from fun h=>h8 (by rw [←HM.out];exact h.2.2.1))
  go_wp2
  go_ret
  exact aA HN.out HB0.out
 have hd:decide ((M.length:Int)≤8)=true:=eO (by omega)
 have hd':decide (M.length≤8)=true:=eO h8
 go_wp2_with fail
 refine (KL HL.out HP.out).mono ?_
 intro e v3 h
 obtain ⟨z3,rfl,hz3,hb3⟩:=bA h
 have HZ3:=aj hz3
 have HC:=aj (aC (aY ak) HC.out hb3)
 have HP:=aj (aC aD HP.out hb3)
 have HQ:=aj (aC aB HQ.out hb3)
 have HL:=aj (aC ak HL.out hb3)
 have X0:=aj (X0.out.call hb3)
 have HB0:=aj (HB0.out.trans (hb3.mono HB0.out.size))
 clear h hz3 hb3 dB dA dz dx
 obtain ⟨dB,dA,dz,dx⟩:=X0.out.jG rfl
 cases z3 with
 | false=>
  have HN:=aj (show ¬oo C P Q hf from fun h=>by have:=HZ3.out.2 (by rw [←HM.out];exact h.2.2.2.1);cases this)
  go_wp2
  go_ret
  exact aA HN.out HB0.out
 | true=>
 have HY3:=aj (HZ3.out.1 rfl)
 go_wp2_with fail
 refine (IL HMr.out HMs.out h8 HL.out HQ.out).mono ?_
 intro e v4 h
 obtain ⟨z4,rfl,mP,hb4⟩:=bA h
 have uZ:=aj mP
 have HC:=aj (aC (aY ak) HC.out hb4)
 have HP:=aj (aC aD HP.out hb4)
 have HQ:=aj (aC aB HQ.out hb4)
 have HL:=aj (aC ak HL.out hb4)
 have X0:=aj (X0.out.call hb4)
 have HB0:=aj (HB0.out.trans (hb4.mono HB0.out.size))
 clear h mP hb4 dB dA dz dx
 obtain ⟨dB,dA,dz,dx⟩:=X0.out.jG rfl
 cases z4 with
 | false=>
  have HN:=aj (show ¬oo C P Q hf from fun h=>by have:=uZ.out.2 (by rw [←HM.out];exact h.2.2.2.2);cases this)
  go_wp2
  go_ret
  exact aA HN.out HB0.out
 | true=>
 have HY4:=aj (uZ.out.1 rfl)
 have HY:=aj (show oo C P Q hf from ⟨HY1.out,HH.out,by rw [HM.out];exact h8,by rw [HM.out];exact HY3.out,by rw [HM.out];exact HY4.out⟩)
 go_wp2
 go_ret
 exact bO HY.out HB0.out
theorem Db {C:List (List av)}{P:List bq}{Q:List aV}{hf:Int}{ca pa qa:Option Addr}{cc pc qc:Nat}{W:World}(hC:aH (Sl au) W W.heap.size C ca cc)(hP:aH aS W W.heap.size P pa pc)(hQ:aH aM W W.heap.size Q qa qc) :
 Calls Tryz.prog 168 #[.agg #[.slice ca C.length cc,.slice pa P.length pc,.slice qa Q.length qc,.int .i64 hf]] W (jW au (yt C P Q hf) W):=by
 obtain ⟨M,hM⟩:∃ M,yt C P Q hf=M:=⟨_,rfl⟩
 have HM:=aj hM
 rw [hM]
 clear hM
 obtain ⟨z,hz⟩:∃ z,CW C P Q hf=z:=⟨_,rfl⟩
 have HZ:=aj hz
 clear hz
 obtain ⟨w0,hw0⟩:∃ w,w=W.alloc (.cells #[.slice ca C.length cc,.slice pa P.length pc,.slice qa Q.length qc,.int .i64 hf] 39):=⟨_,rfl⟩
 have hb0:Below W.heap.size W w0:=by rw [hw0];exact (aU _ _).alloc (bK _) _
 have x0:aN w0 (W.heap.size) 39 #[.slice ca C.length cc,.slice pa P.length pc,.slice qa Q.length qc,.int .i64 hf]:=by
  have h9:=aN.new W 39 #[.slice ca C.length cc,.slice pa P.length pc,.slice qa Q.length qc,.int .i64 hf]
  try simp only [World.size_alloc] at h9
  rw [hw0];exact h9
 have X0:=aj x0
 have HC:=aj (aC (aY ak) hC hb0)
 have HP:=aj (aC aD hP hb0)
 have HQ:=aj (aC aB hQ hb0)
 have HB0:=aj hb0
 have hz0:=hb0.size
 clear hb0 hC hP hQ x0
 go_enter Tryz.func168,Tryz.ntmps168
 obtain ⟨dB,dA,dz,dx⟩:=X0.out.jG rfl
 go_wp2_with fail
 rw [←hw0]
 clear hw0
 have hcf:=yO HC.out HP.out HQ.out (hf:=hf)
 rw [HZ.out] at hcf
 refine hcf.mono ?_
 intro e v1 h
 obtain ⟨rfl,hb⟩:=bT h
 have HC:=aj (aC (aY ak) HC.out hb)
 have HP:=aj (aC aD HP.out hb)
 have HQ:=aj (aC aB HQ.out hb)
 have X0:=aj (X0.out.call hb)
 have HB0:=aj (HB0.out.trans (hb.mono HB0.out.size))
 clear h hb hcf dB dA dz dx
 obtain ⟨dB,dA,dz,dx⟩:=X0.out.jG rfl
 cases z with
 | false=>
  have HE:=aj (show M = [] from by rw [←HM.out];unfold yt;rw [HZ.out];rfl)
  obtain rfl:=HE.out
  go_wp2
  go_ret
  exact ⟨_,_,rfl,⟨bK _,by unfold maxLen;omega,fun h=>absurd h (jK _)⟩,HB0.out.alloc HB0.out.size _⟩
 | true=>
 have HE:=aj (show M=iw C from by rw [←HM.out];unfold yt;rw [HZ.out];rfl)
 have Mx:=aj (kQ.1 HZ.out).1
 go_wp2_with fail
 have hlb:=xV HC.out
 rw [←HE.out] at hlb
 refine hlb.mono ?_
 intro e v2 h
 obtain ⟨la,lc,rfl,ho,hb⟩:=bI h
 have HO:=aj (ho.more fun k (hk:Rg v1.heap.size v2.heap.size k)=>(⟨eH HB0.out.size hk.1,hk.2⟩:Rg W.heap.size v2.heap.size k))
 have HB1:=aj (HB0.out.trans (hb.mono HB0.out.size))
 clear h ho hb hlb
 go_wp2
 go_ret
 exact ⟨_,_,rfl,HO.out,HB1.out⟩
end
section
open Go.RowKit bN bP
theorem xJ {t:TypeId}{z:Value}{n b:Nat}(h:(Tryz.prog.info? t).map (fun i=>(i.zero,i.size,i.bytes))=some (some z,n,b)):∃ i,Tryz.prog.info? t=some i∧i.zero=some z∧i.size=n∧i.bytes=b:=by
 cases hx:Tryz.prog.info? t with
 | none=>rw [hx] at h;simp at h
 | some i=>rw [hx] at h;simp at h;exact ⟨i,rfl,h.1,h.2.1,h.2.2⟩
def mZ {α:Type}(E:Rp α)(w:World)(base top:Nat)(T:TypeId)(v:Value)(L:List α)(S:Nat→Prop):Prop:=
 ∃ lo hi xs Sf,base≤lo∧lo≤hi∧hi≤top∧App E w lo hi T v L xs Sf∧∀ k,S k↔(v.ownBlock=some k∨∃ i,Sf i k)
section
variable {α:Type}{E:Rp α}{w w':World}{base top:Nat}{T:TypeId}{v:Value}{L:List α}{S:Nat→Prop}
theorem mZ.none_ (E:Rp α)(w:World)(T:TypeId):mZ E w w.heap.size w.heap.size T (.slice none 0 0) [] (fun _=>False):=
 ⟨_,_,_,_,bK _,bK _,bK _,App.none_ E w T (bK _),fun k=>⟨fun h=>h.elim,fun h=>h.elim (fun h=>by cases h) fun ⟨_,h⟩=>h⟩⟩
theorem mZ.bnd (h:mZ E w base top T v L S){k:Nat}(hk:S k):base≤k∧k<top:=by
 obtain ⟨lo,hi,xs,Sf,h1,h2,h3,hA,hS⟩:=h
 rcases (hS k).1 hk with h | ⟨i,h⟩
 ·have:=hA.blk k h;omega
 ·have:=hA.sub i k h;omega
theorem mZ.isSlice (h:mZ E w base top T v L S):∃ a c,v=.slice a L.length c:=by
 obtain ⟨lo,hi,xs,Sf,h1,h2,h3,hA,hS⟩:=h
 exact hA.isSlice
theorem mZ.mv (hE:Ok E)(h:mZ E w base top T v L S)(hs:w.heap.size≤w'.heap.size)(hb:∀ k,S k→w'.heap[k]? = w.heap[k]?):mZ E w' base top T v L S:=by
 obtain ⟨lo,hi,xs,Sf,h1,h2,h3,hA,hS⟩:=h
 exact ⟨lo,hi,xs,Sf,h1,h2,h3,hA.mv2 hE hs (fun k hk=>hb k ((hS k).2 (.inl hk))) (fun i k hk=>hb k ((hS k).2 (.inr ⟨i,hk⟩))),hS⟩
theorem mZ.call (hE:Ok E)(h:mZ E w base top T v L S)(ht:top≤w.heap.size)(hb:Below w.heap.size w w'):mZ E w' base top T v L S:=
 h.mv hE hb.size fun k hk=>hb.block k (bV (h.bnd hk).2 ht)
theorem mZ.rise {top':Nat}(h:mZ E w base top T v L S)(ht:top≤top'):mZ E w base top' T v L S:=by
 obtain ⟨lo,hi,xs,Sf,h1,h2,h3,hA,hS⟩:=h
 exact ⟨lo,hi,xs,Sf,h1,h2,eH h3 ht,hA,hS⟩
theorem mZ.done (hE:Ok E)(h:mZ E w base top T v L S):∃ a c,v=.slice a L.length c∧bG E w (Rg base top) L a c:=by
 obtain ⟨lo,hi,xs,Sf,h1,h2,h3,hA,hS⟩:=h
 obtain ⟨a,c,rfl,hO⟩:=hA.done
 exact ⟨a,c,rfl,hO.more (fun k hk=>⟨eH h1 hk.1,bV hk.2 h3⟩)⟩
theorem mZ.app {P:Program}(hE:Ok E)(h:mZ E w base top T v L S){t ty:TypeId}{i:TypeInfo}{z:Value}{bytes:Nat}(ht:P.underlying t=some (.slice T))(hi':P.info? T=some i)(hz:i.zero=some z)(hsize:i.size=E.size)(hby:i.bytes=bytes)(hzs:z.cells.size=E.size)(hpos:0<E.size)
 {x:α} {us:List Value} {Sx:Nat→Prop} {blk c:Nat} (hrow:∀ j u,us[j]? = some u→w.cell? ⟨blk,j,none⟩=some u) (hx:E.ow w Sx x us) (hS:∀ k,Sx k→top≤k∧k<w.heap.size) (htop:top≤w.heap.size) (hL:L.length+1≤maxLen) (Xn:(L.length+1)*bytes≤140737488355328) :
 ∃ v' w' S',(Builtin.append_ #[t,t] ty #[v,.slice (some ⟨blk,0,none⟩) 1 c]).run P w=.ok v' w'∧mZ E w' base w'.heap.size T v' (L++[x]) S'∧w.grownBy w' v.ownBlock∧(∀ k,v.ownBlock=some k→S k)∧∀ k,S' k→S k∨top≤k:=by
 obtain ⟨lo,hi,xs,Sf,h1,h2,h3,hA,hSS⟩:=h
 obtain ⟨v',w',xs',zQ,hrun,hA',hg,hown,hsub⟩:=hA.app2 (ty:=ty) (c:=c) hE ht hi' hz hsize hby hzs hpos hrow hx (fun k hk=>⟨by have:=hS k hk;omega,(hS k hk).2⟩) h2 hL Xn
 refine ⟨v',w',fun k=>v'.ownBlock=some k∨∃ i,zQ i k,hrun,⟨lo,w'.heap.size,xs',zQ,h1,?_,bK _,hA',fun k=>Iff.rfl⟩,hg,fun k hk=>(hSS k).2 (.inl hk),fun k hk=>?_⟩
 ·have:=hg.size;omega
 ·rcases hk with hk | ⟨i,hk⟩
  ·rcases hown k hk with h | h
   ·exact .inl ((hSS k).2 (.inl h))
   ·exact .inr (by omega)
  ·rcases hsub i k hk with h | h
   ·exact .inl ((hSS k).2 (.inr ⟨i,h⟩))
   ·exact .inr (hS k h).1
end
def gX {α:Type}(E:Rp α)(w:World)(lo:Nat)(T:TypeId)(v:Value)(L:List α):Prop:=∃ S,mZ E w lo w.heap.size T v L S
section
variable {α:Type}{E:Rp α}{w w':World}{lo:Nat}{T:TypeId}{v:Value}{L:List α}
theorem gX.none_ (E:Rp α)(w:World)(T:TypeId):gX E w w.heap.size T (.slice none 0 0) []:=⟨_,mZ.none_ E w T⟩
theorem gX.made (E:Rp α)(w:World)(T:TypeId):gX E (w.alloc (.cells #[] T)) w.heap.size T (.slice (some ⟨w.heap.size,0,none⟩) 0 0) []:=
 ⟨_,_,_,_,_,bK _,Nat.le_succ _,by simp,App.made E w T,fun k=>Iff.rfl⟩
theorem gX.call (hE:Ok E)(h:gX E w lo T v L)(hb:Below w.heap.size w w'):gX E w' lo T v L:=by
 obtain ⟨S,h⟩:=h
 exact ⟨S,(h.call hE (bK _) hb).rise hb.size⟩
theorem gX.isSlice (h:gX E w lo T v L):∃ a c,v=.slice a L.length c:=by obtain ⟨S,h⟩:=h;exact h.isSlice
theorem gX.base (h:gX E w lo T v L):lo≤w.heap.size:=by
 obtain ⟨S,a,b,xs,Sf,h1,h2,h3,_⟩:=h
 omega
theorem gX.app {P:Program}(hE:Ok E)(h:gX E w lo T v L)(hb:Below w.heap.size w w'){t ty:TypeId}{i:TypeInfo}{z:Value}{bytes:Nat}(ht:P.underlying t=some (.slice T))(hi':P.info? T=some i)(hz:i.zero=some z)(hsize:i.size=E.size)(hby:i.bytes=bytes)(hzs:z.cells.size=E.size)(hpos:0<E.size)
 {x:α} {us:List Value} {blk c:Nat} (hrow:∀ j u,us[j]? = some u→w'.cell? ⟨blk,j,none⟩=some u) (hx:E.ow w' (Rg w.heap.size w'.heap.size) x us) (hL:L.length+1≤maxLen) (Xn:(L.length+1)*bytes≤140737488355328) :
 ∃ a' c' w2,(Builtin.append_ #[t,t] ty #[v,.slice (some ⟨blk,0,none⟩) 1 c]).run P w'=.ok (.slice a' (L++[x]).length c') w2∧gX E w2 lo T (.slice a' (L++[x]).length c') (L++[x])∧Below lo w' w2:=by
 obtain ⟨S,h⟩:=h
 have h':=h.call hE (bK _) hb
 obtain ⟨v',w2,S',hrun,hA,hg,ho,_⟩:=h'.app (ty:=ty) (c:=c) hE ht hi' hz hsize hby hzs hpos hrow hx (fun k hk=>hk) hb.size hL Xn
 have hA2:gX E w2 lo T v' (L++[x]):=⟨S',hA⟩
 obtain ⟨a',c',rfl⟩:=hA2.isSlice
 have hlo:=gX.base (show gX E w lo T v L from ⟨S,h⟩)
 exact ⟨a',c',w2,hrun,hA2,Ef hg (fun k hk=>(h.bnd (ho k hk)).1) (eH hlo hb.size)⟩
theorem gX.news (hE:Ok E){W:World}(h:gX E w lo T v L)(hlo:W.heap.size≤lo)(hb:Below W.heap.size W w):jW E L W (.returned v) w:=by
 obtain ⟨S,h⟩:=h
 obtain ⟨a,c,rfl,ho⟩:=h.done hE
 exact ⟨a,c,rfl,ho.more fun k hk=>⟨eH hlo hk.1,hk.2⟩,hb⟩
end
section
variable {α:Type}{E:Rp α}{f:α→List Value}{w w':World}{lo:Nat}{T:TypeId}{v:Value}{L:List α}
theorem Bg:∃ i,Tryz.prog.info? 61=some i∧i.zero=some (.agg #[.int .i64 0,.int .i64 0])∧i.size=2∧i.bytes=16:=xJ (by kernel_rfl)
theorem Hq:∃ i,Tryz.prog.info? 124=some i∧i.zero=some (.agg #[.int .i64 0,.slice none 0 0])∧i.size=2∧i.bytes=32:=xJ (by kernel_rfl)
theorem jT:Flat bg (fun x=>[.int .i64 x.1,.int .i64 x.2]):=⟨fun {W B x us} h=>by obtain ⟨a,b⟩:=x;exact nH h,fun W S x=>by obtain ⟨a,b⟩:=x;exact xR⟩
abbrev Gb (w:World)(lo:Nat)(v:Value)(L:List bL):Prop:=iU bg (fun x=>[.int .i64 x.1,.int .i64 x.2]) w lo 61 v L
theorem Gb.more {w:World}{lo:Nat}{v:Value}{L M:List bL}{a:Option Addr}{cap:Nat}(h:Gb w lo v L)(hM:aH bg w w.heap.size M a cap)(hlo:lo≤w.heap.size)(hL:L.length+M.length≤8796093022208) :
 ∃ a' c' w',(Builtin.append_ #[122,122] 122 #[v,.slice a M.length cap]).run Tryz.prog w=.ok (.slice a' (L++M).length c') w'∧Gb w' lo (.slice a' (L++M).length c') (L++M)∧Below lo w w':=by
 obtain ⟨i,hi',hz,hs,hby⟩:=Bg
 exact iU.more bC jT h Tryz.underlying122 hi' hz hs hby rfl (by decide) hM hlo (by unfold maxLen;omega) (by omega)
theorem Zl {w:World}{g:Nat}(x0 x1:Int)(h:aN w g 61 #[.int .i64 x0,.int .i64 x1]):aH bg w w.heap.size [(x0,x1)] (some ⟨g,0,none⟩) 1:=by
 refine ⟨bK _,by unfold maxLen;omega,fun _=>⟨g,0,rfl,h.lt,fun i x hx=>?_⟩⟩
 cases i with
 | zero=>
  simp at hx
  subst hx
  refine ⟨[.int .i64 x0,.int .i64 x1],fun j c hj=>?_,QI⟩
  simpa using h.at_ j (by simpa using hj)
 | succ i=>simp at hx
end
theorem WS {w w':World}{lo:Nat}{v:Value}{L:List aO}(h:gX aJ w lo 124 v L)(hb:Below w.heap.size w w'){st:Int}{M:List bL}{a:Option Addr}{c blk:Nat}(hc:aN w' blk 124 #[.int .i64 st,.slice a M.length c])(hM:bG bg w' (Rg w.heap.size w'.heap.size) M a c)(hL:L.length≤4096) :
 ∃ a' c' w2,(Builtin.append_ #[40,40] 40 #[v,.slice (some ⟨blk,0,none⟩) 1 1]).run Tryz.prog w'=.ok (.slice a' (L++[(st,M)]).length c') w2∧gX aJ w2 lo 124 (.slice a' (L++[(st,M)]).length c') (L++[(st,M)])∧Below lo w' w2:=by
 obtain ⟨i,hi',hz,hs,hby⟩:=Hq
 exact h.app aK hb Tryz.underlying40 hi' hz hs hby rfl (by decide) (us:=[.int .i64 st,.slice a M.length c]) (fun j u hj=>hc.at_ j (by simpa using hj)) (lQ (fun k hk=>hk) hM) (by unfold maxLen;omega) (by omega)
theorem LD {L:List bL}{a:Option Addr}{cap:Nat}{w:World}{ty:TypeId}(hn:L.length≤1048576)(h:aH bg w w.heap.size L a cap) :
 ∃ a' c' w',(Builtin.append_ #[122,122] ty #[.slice (some ⟨w.heap.size,0,none⟩) 0 0,.slice a L.length cap]).run Tryz.prog (w.alloc (.cells #[] 61))=.ok (.slice a' L.length c') w'∧bG bg w' (Rg w.heap.size w'.heap.size) L a' c'∧Below w.heap.size w w':=by
 obtain ⟨i,hi',hz,hs,hby⟩:=Bg
 exact qR bC jT Tryz.underlying122 hi' hz hs hby rfl (by decide) (by unfold maxLen;omega) (by omega) h
end
end Go.Proofs.YtlhfiapfncikdaaGreatDoor.aP
