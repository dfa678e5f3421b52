import Derived.Test.YtlhfiapfncikdaaGreatDoorPN7
import Derived.Test.YtlhfiapfncikdaaGreatDoorPN8
set_option linter.unusedVariables false
set_option linter.unusedSimpArgs false
set_option maxRecDepth 100000
set_option maxHeartbeats 3200000
namespace Go.Proofs.YtlhfiapfncikdaaGreatDoor
namespace aQ
section
open Go.RowKit bN bO bJ bQ CF
noncomputable def C8 (C:List (List ay))(P:List bA)(Q:List aX)(hf:Int):Bool:=by classical exact decide (oG C P Q hf)
theorem kP {C:List (List ay)}{P:List bA}{Q:List aX}{hf:Int}:C8 C P Q hf=true↔oG C P Q hf:=by unfold C8;simp
noncomputable def yI (C:List (List ay))(P:List bA)(Q:List aX)(hf:Int):List ay:=if C8 C P Q hf then iw C else []
def gX (C:List (List ay))(a:ay)(n:Nat):List Int:=((List.range n).filter (fun i=>decide (∃ x,C[i]? = some x∧a∈x))).map (fun i:Nat=>(i:Int))
def gJ (C:List (List ay))(a:ay):List Int:=gX C a C.length
theorem yV {C:List (List ay)}{a:ay}{k:Nat}{x:List ay}(hx:C[k]? = some x)(h:a∈x):gX C a (k+1)=gX C a k++[(k:Int)]:=by
 unfold gX
 rw [List.range_succ,List.filter_append,List.map_append]
 simp only [List.filter_cons,decide_eq_true (show ∃ x,C[k]? = some x∧a∈x from ⟨x,hx,h⟩),List.filter_nil,if_true,List.map_cons,List.map_nil]
theorem BK {C:List (List ay)}{a:ay}{k:Nat}{x:List ay}(hx:C[k]? = some x)(h:a ∉ x):gX C a (k+1)=gX C a k:=by
 unfold gX
 rw [List.range_succ,List.filter_append,List.map_append]
 have hn:decide (∃ x,C[k]? = some x∧a∈x)=false:=dS fun ⟨y,hy,hm⟩=>by rw [hx] at hy;obtain rfl:=fC hy;exact h hm
 simp only [List.filter_cons,hn,List.filter_nil,Bool.false_eq_true,if_false,List.map_nil,List.append_nil]
theorem rz (C:List (List ay))(a:ay)(n:Nat):(gX C a n).length≤n:=by
 unfold gX
 rw [List.length_map]
 exact eF (List.length_filter_le _ _) (by simp)
def gI (Q:List aX)(a:ay):Int:=match Q.find? (fun q=>decide (q.1=a)) with
 | some q=>q.2
 | none=>6
noncomputable def AY (C:List (List ay))(P:List bA)(Q:List aX)(hf:Int)(a:ay):Int:=by classical exact if a∈yI C P Q hf then gI Q a else 0
theorem yU {Q:List aX}{a:ay}{k:Nat}{x:aX}(hx:Q[k]? = some x)(hh:x.1=a)(ha:∀ (q:Nat) y,q<k→Q[q]? = some y→y.1≠a):gI Q a=x.2:=by
 have h:Q.find? (fun q=>decide (q.1=a))=some x:=by
  rw [List.find?_eq_some_iff_getElem]
  obtain ⟨hk,hxe⟩:=List.getElem?_eq_some_iff.1 hx
  refine ⟨eD hh,k,hk,hxe,fun j hj=>?_⟩
  have:=ha j Q[j] hj (List.getElem?_eq_getElem _)
  simpa using this
 unfold gI
 rw [h]
theorem wX {Q:List aX}{a:ay}(ha:∀ (q:Nat) y,Q[q]? = some y→y.1≠a):gI Q a=6:=by
 have h:Q.find? (fun q=>decide (q.1=a))=none:=by
  rw [List.find?_eq_none]
  intro x hx
  obtain ⟨i,hi⟩:=List.getElem?_of_mem hx
  simpa using ha i x hi
 unfold gI
 rw [h]
theorem ze {C:List (List ay)}{P:List bA}{Q:List aX}{hf:Int}{ca pa qa:Option Addr}{cc pc qc:Nat}{W:World}(hC:aJ (Sl av) W W.heap.size C ca cc)(hP:aJ aT W W.heap.size P pa pc)(hQ:aJ aN W W.heap.size Q qa qc) :
 Calls Tryz.prog 98 #[.agg #[.slice ca C.length cc,.slice pa P.length pc,.slice qa Q.length qc,.int .i64 hf]] W (sS (C8 C P Q hf) W):=by
 obtain ⟨z,hz⟩:∃ z,C8 C P Q hf=z:=⟨_,rfl⟩
 have HZ:=ak (show z=true↔oG C P Q hf from by rw [←hz];exact kP)
 rw [hz]
 clear hz
 refine Calls.mono ?_ fun e w' h=>NS HZ.out h
 obtain ⟨zh,hzh⟩:∃ z,dD hf 1 9=z:=⟨_,rfl⟩
 have HH:=ak hzh
 clear hzh HZ
 obtain ⟨M,hM⟩:∃ M,iw C=M:=⟨_,rfl⟩
 have HMr:=ak (show ∀ a∈M,dH.rP a.1 a.2 from by rw [←hM];exact fun a ha=>(Bp.1 ha).1)
 have HMs:=ak (show M.Pairwise uG from by rw [←hM];exact rA C 32)
 have HM:=ak hM
 clear hM
 obtain ⟨w0,hw0⟩:∃ w,w=W.alloc (.cells #[.slice ca C.length cc,.slice pa P.length pc,.slice qa Q.length qc,.int .i64 hf] 39):=⟨_,rfl⟩
 have hb0:Below W.heap.size W w0:=by rw [hw0];exact (aW _ _).alloc (bK _) _
 have x0:aO w0 (W.heap.size) 39 #[.slice ca C.length cc,.slice pa P.length pc,.slice qa Q.length qc,.int .i64 hf]:=by
  have h9:=aO.new W 39 #[.slice ca C.length cc,.slice pa P.length pc,.slice qa Q.length qc,.int .i64 hf]
  try simp only [World.size_alloc] at h9
  rw [hw0];exact h9
 have X0:=ak x0
 have HC:=ak (aD (aZ au) hC hb0)
 have HP:=ak (aD aG hP hb0)
 have HQ:=ak (aD aC hQ hb0)
 have HB0:=ak hb0
 have hz0:=hb0.size
 clear hb0 hC hP hQ x0
 go_enter Tryz.func98,Tryz.ntmps98
 obtain ⟨dB,dA,dz,dx⟩:=X0.out.jE rfl
 go_wp2_with fail
 rw [←hw0]
 clear hw0
 refine (Mj HC.out).mono ?_
 intro e v1 h
 obtain ⟨z1,rfl,hz1,hb1⟩:=bq h
 have HZ1:=ak hz1
 have HC:=ak (aD (aZ au) HC.out hb1)
 have HP:=ak (aD aG HP.out hb1)
 have HQ:=ak (aD aC HQ.out hb1)
 have X0:=ak (X0.out.call hb1)
 have HB0:=ak (HB0.out.trans (hb1.mono HB0.out.size))
 clear h hz1 hb1 dB dA dz dx
 obtain ⟨dB,dA,dz,dx⟩:=X0.out.jE rfl
 cases z1 with
 | false=>
  have HN:=ak (show ¬oG C P Q hf from fun h=>by have:=HZ1.out.2 (h.1);cases this)
  go_wp2
  go_ret
  exact aB HN.out HB0.out
 | true=>
 have HY1:=ak (HZ1.out.1 rfl)
 go_wp2_with fail
 refine (oM _ _ _ HH.out _).mono ?_
 rintro e w9 ⟨rfl,rfl⟩
 cases zh with
 | false=>
  have HN:=ak (show ¬oG C P Q hf from fun h=>by have:=h.2.1;rw [HH.out] at this;cases this)
  go_wp2
  go_ret
  exact aB HN.out HB0.out
 | true=>
 go_wp2_with fail
 have hlb:=yw HC.out
 rw [HM.out] at hlb
 refine hlb.mono ?_
 intro e v2 h
 obtain ⟨la,lc,rfl,ho,hb2⟩:=bL h
 have HL:=ak (ho.rd au (B:=v2.heap.size) fun k hk=>hk.2)
 have HC:=ak (aD (aZ au) HC.out hb2)
 have HP:=ak (aD aG HP.out hb2)
 have HQ:=ak (aD aC HQ.out hb2)
 have X0:=ak (X0.out.call hb2)
 have HB0:=ak (HB0.out.trans (hb2.mono HB0.out.size))
 clear h ho hlb hb2 dB dA dz dx
 obtain ⟨dB,dA,dz,dx⟩:=X0.out.jE rfl
 by_cases h8:M.length≤8
 rotate_left
 ·have hd:decide ((M.length:Int)≤8)=false:=dS (by omega)
  have hd':decide (M.length≤8)=false:=dS h8
  have HN:=ak (show ¬oG C P Q hf from fun h=>h8 (by rw [←HM.out];exact h.2.2.1))
  go_wp2
  go_ret
  exact aB HN.out HB0.out
 have hd:decide ((M.length:Int)≤8)=true:=eD (by omega)
 have hd':decide (M.length≤8)=true:=eD h8
 go_wp2_with fail
 refine (La HL.out HP.out).mono ?_
 intro e v3 h
 obtain ⟨z3,rfl,hz3,hb3⟩:=bq h
 have HZ3:=ak hz3
 have HC:=ak (aD (aZ au) HC.out hb3)
 have HP:=ak (aD aG HP.out hb3)
 have HQ:=ak (aD aC HQ.out hb3)
 have HL:=ak (aD au HL.out hb3)
 have X0:=ak (X0.out.call hb3)
 have HB0:=ak (HB0.out.trans (hb3.mono HB0.out.size))
 clear h hz3 hb3 dB dA dz dx
 obtain ⟨dB,dA,dz,dx⟩:=X0.out.jE rfl
 cases z3 with
 | false=>
  have HN:=ak (show ¬oG C P Q hf from fun h=>by have:=HZ3.out.2 (by rw [←HM.out];exact h.2.2.2.1);cases this)
  go_wp2
  go_ret
  exact aB HN.out HB0.out
 | true=>
 have HY3:=ak (HZ3.out.1 rfl)
 go_wp2_with fail
 refine (I9 HMr.out HMs.out h8 HL.out HQ.out).mono ?_
 intro e v4 h
 obtain ⟨z4,rfl,lW,hb4⟩:=bq h
 have vI:=ak lW
 have HC:=ak (aD (aZ au) HC.out hb4)
 have HP:=ak (aD aG HP.out hb4)
 have HQ:=ak (aD aC HQ.out hb4)
 have HL:=ak (aD au HL.out hb4)
 have X0:=ak (X0.out.call hb4)
 have HB0:=ak (HB0.out.trans (hb4.mono HB0.out.size))
 clear h lW hb4 dB dA dz dx
 obtain ⟨dB,dA,dz,dx⟩:=X0.out.jE rfl
 cases z4 with
 | false=>
  have HN:=ak (show ¬oG C P Q hf from fun h=>by have:=vI.out.2 (by rw [←HM.out];exact h.2.2.2.2);cases this)
  go_wp2
  go_ret
  exact aB HN.out HB0.out
 | true=>
 have HY4:=ak (vI.out.1 rfl)
 have HY:=ak (show oG C P Q hf from ⟨HY1.out,HH.out,by rw [HM.out];exact h8,by rw [HM.out];exact HY3.out,by rw [HM.out];exact HY4.out⟩)
 go_wp2
 go_ret
 exact bM HY.out HB0.out
theorem Dk {C:List (List ay)}{P:List bA}{Q:List aX}{hf:Int}{ca pa qa:Option Addr}{cc pc qc:Nat}{W:World}(hC:aJ (Sl av) W W.heap.size C ca cc)(hP:aJ aT W W.heap.size P pa pc)(hQ:aJ aN W W.heap.size Q qa qc) :
 Calls Tryz.prog 168 #[.agg #[.slice ca C.length cc,.slice pa P.length pc,.slice qa Q.length qc,.int .i64 hf]] W (jU av (yI C P Q hf) W):=by
 obtain ⟨M,hM⟩:∃ M,yI C P Q hf=M:=⟨_,rfl⟩
 have HM:=ak hM
 rw [hM]
 clear hM
 obtain ⟨z,hz⟩:∃ z,C8 C P Q hf=z:=⟨_,rfl⟩
 have HZ:=ak hz
 clear hz
 obtain ⟨w0,hw0⟩:∃ w,w=W.alloc (.cells #[.slice ca C.length cc,.slice pa P.length pc,.slice qa Q.length qc,.int .i64 hf] 39):=⟨_,rfl⟩
 have hb0:Below W.heap.size W w0:=by rw [hw0];exact (aW _ _).alloc (bK _) _
 have x0:aO w0 (W.heap.size) 39 #[.slice ca C.length cc,.slice pa P.length pc,.slice qa Q.length qc,.int .i64 hf]:=by
  have h9:=aO.new W 39 #[.slice ca C.length cc,.slice pa P.length pc,.slice qa Q.length qc,.int .i64 hf]
  try simp only [World.size_alloc] at h9
  rw [hw0];exact h9
 have X0:=ak x0
 have HC:=ak (aD (aZ au) hC hb0)
 have HP:=ak (aD aG hP hb0)
 have HQ:=ak (aD aC hQ hb0)
 have HB0:=ak hb0
 have hz0:=hb0.size
 clear hb0 hC hP hQ x0
 go_enter Tryz.func168,Tryz.ntmps168
 obtain ⟨dB,dA,dz,dx⟩:=X0.out.jE rfl
 go_wp2_with fail
 rw [←hw0]
 clear hw0
 have hcf:=ze HC.out HP.out HQ.out (hf:=hf)
 rw [HZ.out] at hcf
 refine hcf.mono ?_
 intro e v1 h
 obtain ⟨rfl,hb⟩:=bU h
 have HC:=ak (aD (aZ au) HC.out hb)
 have HP:=ak (aD aG HP.out hb)
 have HQ:=ak (aD aC HQ.out hb)
 have X0:=ak (X0.out.call hb)
 have HB0:=ak (HB0.out.trans (hb.mono HB0.out.size))
 clear h hb hcf dB dA dz dx
 obtain ⟨dB,dA,dz,dx⟩:=X0.out.jE rfl
 cases z with
 | false=>
  have HE:=ak (show M = [] from by rw [←HM.out];unfold yI;rw [HZ.out];rfl)
  obtain rfl:=HE.out
  go_wp2
  go_ret
  exact ⟨_,_,rfl,⟨bK _,by unfold maxLen;omega,fun h=>absurd h (jH _)⟩,HB0.out.alloc HB0.out.size _⟩
 | true=>
 have HE:=ak (show M=iw C from by rw [←HM.out];unfold yI;rw [HZ.out];rfl)
 have MZ:=ak (kP.1 HZ.out).1
 go_wp2_with fail
 have hlb:=yw HC.out
 rw [←HE.out] at hlb
 refine hlb.mono ?_
 intro e v2 h
 obtain ⟨la,lc,rfl,ho,hb⟩:=bL h
 have HO:=ak (ho.more fun k (hk:Rg v1.heap.size v2.heap.size k)=>(⟨eF HB0.out.size hk.1,hk.2⟩:Rg W.heap.size v2.heap.size k))
 have HB1:=ak (HB0.out.trans (hb.mono HB0.out.size))
 clear h ho hb hlb
 go_wp2
 go_ret
 exact ⟨_,_,rfl,HO.out,HB1.out⟩
end
section
open Go.RowKit bN bO
theorem xX {t:TypeId}{z:Value}{n b:Nat}(h:(Tryz.prog.info? t).map (fun i=>(i.zero,i.size,i.bytes))=some (some z,n,b)):∃ i,Tryz.prog.info? t=some i∧i.zero=some z∧i.size=n∧i.bytes=b:=by
 cases hx:Tryz.prog.info? t with
 | none=>rw [hx] at h;simp at h
 | some i=>rw [hx] at h;simp at h;exact ⟨i,rfl,h.1,h.2.1,h.2.2⟩
def nD {α:Type}(E:Rp α)(w:World)(base top:Nat)(T:TypeId)(v:Value)(L:List α)(S:Nat→Prop):Prop:=
 ∃ lo hi xs Sf,base≤lo∧lo≤hi∧hi≤top∧App E w lo hi T v L xs Sf∧∀ k,S k↔(v.ownBlock=some k∨∃ i,Sf i k)
section
variable {α:Type}{E:Rp α}{w w':World}{base top:Nat}{T:TypeId}{v:Value}{L:List α}{S:Nat→Prop}
theorem nD.none_ (E:Rp α)(w:World)(T:TypeId):nD E w w.heap.size w.heap.size T (.slice none 0 0) [] (fun _=>False):=
 ⟨_,_,_,_,bK _,bK _,bK _,App.none_ E w T (bK _),fun k=>⟨fun h=>h.elim,fun h=>h.elim (fun h=>by cases h) fun ⟨_,h⟩=>h⟩⟩
theorem nD.bnd (h:nD E w base top T v L S){k:Nat}(hk:S k):base≤k∧k<top:=by
 obtain ⟨lo,hi,xs,Sf,h1,h2,h3,hA,hS⟩:=h
 rcases (hS k).1 hk with h | ⟨i,h⟩
 ·have:=hA.blk k h;omega
 ·have:=hA.sub i k h;omega
theorem nD.isSlice (h:nD E w base top T v L S):∃ a c,v=.slice a L.length c:=by
 obtain ⟨lo,hi,xs,Sf,h1,h2,h3,hA,hS⟩:=h
 exact hA.isSlice
theorem nD.mv (hE:Ok E)(h:nD E w base top T v L S)(hs:w.heap.size≤w'.heap.size)(hb:∀ k,S k→w'.heap[k]? = w.heap[k]?):nD E w' base top T v L S:=by
 obtain ⟨lo,hi,xs,Sf,h1,h2,h3,hA,hS⟩:=h
 exact ⟨lo,hi,xs,Sf,h1,h2,h3,hA.mv2 hE hs (fun k hk=>hb k ((hS k).2 (.inl hk))) (fun i k hk=>hb k ((hS k).2 (.inr ⟨i,hk⟩))),hS⟩
theorem nD.call (hE:Ok E)(h:nD E w base top T v L S)(ht:top≤w.heap.size)(hb:Below w.heap.size w w'):nD E w' base top T v L S:=
 h.mv hE hb.size fun k hk=>hb.block k (bV (h.bnd hk).2 ht)
theorem nD.rise {top':Nat}(h:nD E w base top T v L S)(ht:top≤top'):nD E w base top' T v L S:=by
 obtain ⟨lo,hi,xs,Sf,h1,h2,h3,hA,hS⟩:=h
 exact ⟨lo,hi,xs,Sf,h1,h2,eF h3 ht,hA,hS⟩
theorem nD.done (hE:Ok E)(h:nD E w base top T v L S):∃ a c,v=.slice a L.length c∧bH E w (Rg base top) L a c:=by
 obtain ⟨lo,hi,xs,Sf,h1,h2,h3,hA,hS⟩:=h
 obtain ⟨a,c,rfl,hO⟩:=hA.done
 exact ⟨a,c,rfl,hO.more (fun k hk=>⟨eF h1 hk.1,bV hk.2 h3⟩)⟩
theorem nD.app {P:Program}(hE:Ok E)(h:nD E w base top T v L S){t ty:TypeId}{i:TypeInfo}{z:Value}{bytes:Nat}(ht:P.underlying t=some (.slice T))(hi':P.info? T=some i)(hz:i.zero=some z)(hsize:i.size=E.size)(hby:i.bytes=bytes)(hzs:z.cells.size=E.size)(hpos:0<E.size)
 {x:α} {us:List Value} {Sx:Nat→Prop} {blk c:Nat} (hrow:∀ j u,us[j]? = some u→w.cell? ⟨blk,j,none⟩=some u) (hx:E.ow w Sx x us) (hS:∀ k,Sx k→top≤k∧k<w.heap.size) (htop:top≤w.heap.size) (hL:L.length+1≤maxLen) (XI:(L.length+1)*bytes≤140737488355328) :
 ∃ v' w' S',(Builtin.append_ #[t,t] ty #[v,.slice (some ⟨blk,0,none⟩) 1 c]).run P w=.ok v' w'∧nD E w' base w'.heap.size T v' (L++[x]) S'∧w.grownBy w' v.ownBlock∧(∀ k,v.ownBlock=some k→S k)∧∀ k,S' k→S k∨top≤k:=by
 obtain ⟨lo,hi,xs,Sf,h1,h2,h3,hA,hSS⟩:=h
 obtain ⟨v',w',xs',Eu,hrun,hA',hg,hown,hsub⟩:=hA.app2 (ty:=ty) (c:=c) hE ht hi' hz hsize hby hzs hpos hrow hx (fun k hk=>⟨by have:=hS k hk;omega,(hS k hk).2⟩) h2 hL XI
 refine ⟨v',w',fun k=>v'.ownBlock=some k∨∃ i,Eu i k,hrun,⟨lo,w'.heap.size,xs',Eu,h1,?_,bK _,hA',fun k=>Iff.rfl⟩,hg,fun k hk=>(hSS k).2 (.inl hk),fun k hk=>?_⟩
 ·have:=hg.size;omega
 ·rcases hk with hk | ⟨i,hk⟩
  ·rcases hown k hk with h | h
   ·exact .inl ((hSS k).2 (.inl h))
   ·exact .inr (by omega)
  ·rcases hsub i k hk with h | h
   ·exact .inl ((hSS k).2 (.inr ⟨i,h⟩))
   ·exact .inr (hS k h).1
end
def gW {α:Type}(E:Rp α)(w:World)(lo:Nat)(T:TypeId)(v:Value)(L:List α):Prop:=∃ S,nD E w lo w.heap.size T v L S
section
variable {α:Type}{E:Rp α}{w w':World}{lo:Nat}{T:TypeId}{v:Value}{L:List α}
theorem gW.none_ (E:Rp α)(w:World)(T:TypeId):gW E w w.heap.size T (.slice none 0 0) []:=⟨_,nD.none_ E w T⟩
theorem gW.made (E:Rp α)(w:World)(T:TypeId):gW E (w.alloc (.cells #[] T)) w.heap.size T (.slice (some ⟨w.heap.size,0,none⟩) 0 0) []:=
 ⟨_,_,_,_,_,bK _,Nat.le_succ _,by simp,App.made E w T,fun k=>Iff.rfl⟩
theorem gW.call (hE:Ok E)(h:gW E w lo T v L)(hb:Below w.heap.size w w'):gW E w' lo T v L:=by
 obtain ⟨S,h⟩:=h
 exact ⟨S,(h.call hE (bK _) hb).rise hb.size⟩
theorem gW.isSlice (h:gW E w lo T v L):∃ a c,v=.slice a L.length c:=by obtain ⟨S,h⟩:=h;exact h.isSlice
theorem gW.base (h:gW E w lo T v L):lo≤w.heap.size:=by
 obtain ⟨S,a,b,xs,Sf,h1,h2,h3,_⟩:=h
 omega
theorem gW.app {P:Program}(hE:Ok E)(h:gW E w lo T v L)(hb:Below w.heap.size w w'){t ty:TypeId}{i:TypeInfo}{z:Value}{bytes:Nat}(ht:P.underlying t=some (.slice T))(hi':P.info? T=some i)(hz:i.zero=some z)(hsize:i.size=E.size)(hby:i.bytes=bytes)(hzs:z.cells.size=E.size)(hpos:0<E.size)
 {x:α} {us:List Value} {blk c:Nat} (hrow:∀ j u,us[j]? = some u→w'.cell? ⟨blk,j,none⟩=some u) (hx:E.ow w' (Rg w.heap.size w'.heap.size) x us) (hL:L.length+1≤maxLen) (XI:(L.length+1)*bytes≤140737488355328) :
 ∃ a' c' w2,(Builtin.append_ #[t,t] ty #[v,.slice (some ⟨blk,0,none⟩) 1 c]).run P w'=.ok (.slice a' (L++[x]).length c') w2∧gW E w2 lo T (.slice a' (L++[x]).length c') (L++[x])∧Below lo w' w2:=by
 obtain ⟨S,h⟩:=h
 have h':=h.call hE (bK _) hb
 obtain ⟨v',w2,S',hrun,hA,hg,ho,_⟩:=h'.app (ty:=ty) (c:=c) hE ht hi' hz hsize hby hzs hpos hrow hx (fun k hk=>hk) hb.size hL XI
 have hA2:gW E w2 lo T v' (L++[x]):=⟨S',hA⟩
 obtain ⟨a',c',rfl⟩:=hA2.isSlice
 have hlo:=gW.base (show gW E w lo T v L from ⟨S,h⟩)
 exact ⟨a',c',w2,hrun,hA2,Eo hg (fun k hk=>(h.bnd (ho k hk)).1) (eF hlo hb.size)⟩
theorem gW.news (hE:Ok E){W:World}(h:gW E w lo T v L)(hlo:W.heap.size≤lo)(hb:Below W.heap.size W w):jU E L W (.returned v) w:=by
 obtain ⟨S,h⟩:=h
 obtain ⟨a,c,rfl,ho⟩:=h.done hE
 exact ⟨a,c,rfl,ho.more fun k hk=>⟨eF hlo hk.1,hk.2⟩,hb⟩
end
section
variable {α:Type}{E:Rp α}{f:α→List Value}{w w':World}{lo:Nat}{T:TypeId}{v:Value}{L:List α}
theorem Ij:∃ i,Tryz.prog.info? 61=some i∧i.zero=some (.agg #[.int .i64 0,.int .i64 0])∧i.size=2∧i.bytes=16:=xX (by kernel_rfl)
theorem Il:∃ i,Tryz.prog.info? 124=some i∧i.zero=some (.agg #[.int .i64 0,.slice none 0 0])∧i.size=2∧i.bytes=32:=xX (by kernel_rfl)
theorem lV:Flat bE (fun x=>[.int .i64 x.1,.int .i64 x.2]):=⟨fun {W B x us} h=>by obtain ⟨a,b⟩:=x;exact rU h,fun W S x=>by obtain ⟨a,b⟩:=x;exact yj⟩
end
theorem Xg {w w':World}{lo:Nat}{v:Value}{L:List aP}(h:gW aL w lo 124 v L)(hb:Below w.heap.size w w'){st:Int}{M:List dJ}{a:Option Addr}{c blk:Nat}(hc:aO w' blk 124 #[.int .i64 st,.slice a M.length c])(hM:bH bE w' (Rg w.heap.size w'.heap.size) M a c)(hL:L.length≤4096) :
 ∃ a' c' w2,(Builtin.append_ #[40,40] 40 #[v,.slice (some ⟨blk,0,none⟩) 1 1]).run Tryz.prog w'=.ok (.slice a' (L++[(st,M)]).length c') w2∧gW aL w2 lo 124 (.slice a' (L++[(st,M)]).length c') (L++[(st,M)])∧Below lo w' w2:=by
 obtain ⟨i,hi',hz,hs,hby⟩:=Il
 exact h.app aK hb Tryz.underlying40 hi' hz hs hby rfl (by decide) (us:=[.int .i64 st,.slice a M.length c]) (fun j u hj=>hc.at_ j (by simpa using hj)) (lS (fun k hk=>hk) hM) (by unfold maxLen;omega) (by omega)
theorem Ma {L:List dJ}{a:Option Addr}{cap:Nat}{w:World}{ty:TypeId}(hn:L.length≤1048576)(h:aJ bE w w.heap.size L a cap) :
 ∃ a' c' w',(Builtin.append_ #[122,122] ty #[.slice (some ⟨w.heap.size,0,none⟩) 0 0,.slice a L.length cap]).run Tryz.prog (w.alloc (.cells #[] 61))=.ok (.slice a' L.length c') w'∧bH bE w' (Rg w.heap.size w'.heap.size) L a' c'∧Below w.heap.size w w':=by
 obtain ⟨i,hi',hz,hs,hby⟩:=Ij
 exact qZ bG lV Tryz.underlying122 hi' hz hs hby rfl (by decide) (by unfold maxLen;omega) (by omega) h
end
end aQ
end Go.Proofs.YtlhfiapfncikdaaGreatDoor
