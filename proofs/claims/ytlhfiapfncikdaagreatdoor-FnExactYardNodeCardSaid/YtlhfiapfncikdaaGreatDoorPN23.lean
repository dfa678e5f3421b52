import Derived.Test.YtlhfiapfncikdaaGreatDoorPN3
import Derived.Test.YtlhfiapfncikdaaGreatDoorPN9
import Derived.Test.YtlhfiapfncikdaaGreatDoorPN11
import Derived.Test.YtlhfiapfncikdaaGreatDoorPN17
set_option linter.unusedVariables false
set_option linter.unusedSimpArgs false
set_option maxRecDepth 100000
set_option maxHeartbeats 3200000
namespace Go.Proofs.YtlhfiapfncikdaaGreatDoor
namespace aQ
section
open Go.RowKit bN bO bJ bQ eO
def Gx (x:aF)(a:ay):Bool:=decide (Ey x=a)&&dD (kU x) 1 3
def fK (L:List aF)(a:ay)(k:Nat):Nat:=((L.take k).filter (fun x=>Gx x a)).length
noncomputable def EL (L:List aF)(a:ay):Int:=if oH L=true then (fK L a L.length:Int) else 0
theorem BP {L:List aF}{a:ay}(h:oH L=true):EL L a=(fK L a L.length:Int):=if_pos h
theorem Ro {L:List aF}{a:ay}(h:oH L=false):EL L a=0:=if_neg (by rw [h];decide)
theorem yZ {L:List aF}{a:ay}:fK L a 0=0:=by simp [fK]
theorem BO {L:List aF}{a:ay}{k:Nat}{x:aF}(hx:L[k]? = some x)(h:Gx x a=true):fK L a (k+1)=fK L a k+1:=by
 unfold fK
 rw [List.take_add_one,hx,Option.toList_some,List.filter_append,List.length_append]
 simp [h]
theorem sG {L:List aF}{a:ay}{k:Nat}{x:aF}(hx:L[k]? = some x)(h:Gx x a=false):fK L a (k+1)=fK L a k:=by
 unfold fK
 rw [List.take_add_one,hx,Option.toList_some,List.filter_append,List.length_append]
 simp [h]
theorem Ec {L:List aF}{a:ay}(k:Nat):fK L a k≤k:=by
 unfold fK
 exact eF (List.length_filter_le _ _) (List.length_take_le _ _)
theorem Ib (st:Int){b:Bool}(hb:dD st 1 3=b)(w:World):Calls Tryz.prog 167 #[.int .i64 st] w fun e w'=>e=.returned (.bool b)∧Below w.heap.size w w':=by
 by_cases h1:st=1
 ·have h1':(st==1)=true:=beq_iff_eq.2 h1
  have HE:=ak (show b=true from by rw [←hb,dG];omega)
  clear h1
  go_enter Tryz.func167,Tryz.ntmps167
  go_wp2
  go_ret
  exact ⟨by rw [HE.out];rfl,aW _ _⟩
 have h1':(st==1)=false:=beq_eq_false_iff_ne.2 h1
 by_cases h2:st=2
 ·have h2':(st==2)=true:=beq_iff_eq.2 h2
  have HE:=ak (show b=true from by rw [←hb,dG];omega)
  clear h2 h1
  go_enter Tryz.func167,Tryz.ntmps167
  go_wp2
  go_ret
  exact ⟨by rw [HE.out];rfl,aW _ _⟩
 have h2':(st==2)=false:=beq_eq_false_iff_ne.2 h2
 have HE:=ak (show b=(st==3) from by
  rw [←hb,Bool.eq_iff_iff,dG,beq_iff_eq];omega)
 clear h1 h2
 go_enter Tryz.func167,Tryz.ntmps167
 go_wp2
 go_ret
 exact ⟨by rw [HE.out];rfl,aW _ _⟩
def OfL (L:List aF)(a:ay)(W:World)(e:Ending)(w':World):Prop:=e=.returned (.int .i64 (EL L a))∧Below W.heap.size W w'
theorem Rn {L:List aF}{a:Option Addr}{cap:Nat}{l0 l1:Int}{W:World}(h:aJ aI W W.heap.size L a cap) :
 Calls Tryz.prog 104 #[.slice a L.length cap,.agg #[.int .i64 l0,.int .i64 l1]] W (OfL L (l0,l1) W):=by
 have hn:L.length≤9223372036854775807:=by have h1:=h.1;have h2:=h.2.1;unfold maxLen at h2;omega
 have H:=ak h
 clear h
 obtain ⟨wa,MB⟩:∃ w,w=W.alloc (.cells #[.int .i64 l0,.int .i64 l1] 49):=⟨_,rfl⟩
 have JV:=ak (show Below W.heap.size W wa from by rw [MB];exact (aW _ _).alloc (bK _) _)
 have HPA:=ak (show aO wa W.heap.size 49 #[.int .i64 l0,.int .i64 l1] from by rw [MB];exact aO.new _ _ _)
 have HA:=ak ((H.out.below aA JV.out).more aA JV.out.size)
 go_enter Tryz.func104,Tryz.ntmps104
 go_wp2_with fail
 rw [←MB]
 clear MB
 refine (Bz HA.out).mono ?_
 intro e w1 h
 obtain ⟨rfl,hb⟩:=bU h
 have HB1:=ak (JV.out.trans (hb.mono JV.out.size))
 have cZ:=ak (HPA.out.call hb)
 have HA1:=ak ((HA.out.below aA hb).more aA hb.size)
 clear h hb HPA HA
 cases hq:oH L with
 | false=>
  have HE:=ak (Ro (a:=(l0,l1)) hq)
  clear hq
  go_wp2
  go_ret
  exact ⟨by rw [HE.out];rfl,HB1.out⟩
 | true=>
  have HE:=ak (BP (a:=(l0,l1)) hq)
  have HR:=ak (jo.1 hq)
  have hn96:L.length≤96:=HR.out.1
  clear hq
  go_wp2
  go_loopw [5,6] (fun q i wr=>∃ k:Nat,k≤L.length∧i=.int .i64 k∧q=.int .i64 (fK L (l0,l1) k)∧Below w1.heap.size w1 wr) (fun _ i _=>L.length-(intOf i).toNat)
  case atStart=>exact ⟨0,dV _,rfl,by rw [yZ];rfl,aW _ _⟩
  case round=>
   obtain ⟨k,hk,rfl,rfl,hB⟩:=hrel
   have HB:=ak hB
   have uJ:=ak (HB1.out.trans (hB.mono HB1.out.size))
   have hsz:=hB.size
   by_cases hlt:k<L.length
   ·skip
    obtain ⟨⟨⟨x0,x1⟩,x2,x3,x4,x5,x6,⟨x7,x8⟩,x9,x10,aS,aV,M⟩,hx⟩:=aM hlt
    have HX:=ak hx
    obtain ⟨g,o,us,rfl,hg,hu,hr⟩:=(HA1.out.below aA hB).at_ hx
    obtain ⟨ba,bc,rfl,sP,fH⟩:=fA hr
    obtain ⟨e0,e1,e2,e3,e4,e5,e6,e7,e8,e9,e10,e11,e12,e13⟩:=kY (a:=o+k*14) hu rfl
    have Sw:=ak (cZ.out.call hB)
    have hi0:(0:Int)≤(k:Int):=eu _
    have hi1:(k:Int)<(L.length:Int):=by omega
    have hgl:g<wr.heap.size:=bV hg hsz
    have hle:=Ec (L:=L) (a:=(l0,l1)) k
    obtain ⟨n,hnn⟩:∃ n,fK L (l0,l1) k=n:=⟨_,rfl⟩
    have Ac:=ak hnn
    rw [hnn] at hle
    rw [hnn]
    have hnw:IntKind.i64.wrap ((n:Int)+1)=(n:Int)+1:=gK _ (by omega)
    clear hnn
    obtain ⟨b,hb⟩:∃ b,decide (((x0,x1):Int×Int)=(l0,l1))=b:=⟨_,rfl⟩
    have hq:=iK x0 x1 l0 l1 b hb
    obtain ⟨c,hc⟩:∃ c,dD aS 1 3=c:=⟨_,rfl⟩
    have Xw:=ak (show Gx ((x0,x1),x2,x3,x4,x5,x6,(x7,x8),x9,x10,aS,aV,M) (l0,l1)=(b&&c) from by rw [←hb,←hc];rfl)
    have HC:=ak hc
    clear hu hr hg hB hx sP hb hc
    cases b with
    | false=>
     have HT:=ak (sG HX.out (by rw [Xw.out];rfl))
     go_wp2_with fail
     refine dX (S:=(fun V=>Below (wr).heap.size (wr) V)) (by kernel_rfl) ((aW _ _).drew) (fun ah=>?_)
     refine tk 0 ah ?_
     refine tk 1 ah ?_
     refine tk 2 ah ?_
     refine tk 3 ah ?_
     refine tk 4 ah ?_ (hy:=fun w aj=>by (try dsimp only at aj);have k0:=(aj.cell (p:=⟨g,o+k*14,none⟩) hgl).trans e0;have k1:=(aj.cell (p:=⟨g,o+k*14+1,none⟩) hgl).trans e1;clear aj;go_simp;try with_reducible rfl)
     refine tk 5 ah ?_ (hy:=fun w aj=>by (try dsimp only at aj);have k0:=Sw.out.hat aj 0 rfl;have k1:=Sw.out.hat aj 1 rfl;clear aj;go_simp;try with_reducible rfl)
     refine tk 6 ah ?_
     refine tk 7 ah ?_
     refine tn 8 ah ?_
     refine tn 9 ah ?_
     refine tn 10 ah ?_
     refine tn 11 ah ?_
     refine tn 12 ah ?_
     refine tn 13 ah ?_
     refine tk 14 ah ?_
     refine dQ ?_
     have HF:=ak ah
     clear ah
     have mY:=ak (HB.out.trans (HF.out.mono hsz))
     go_wp2
     go_roundw
     case rel=>exact ⟨k+1,by omega,by go_num,by first | (rw [HT.out,Ac.out];done) | (rw [HT.out,Ac.out];rfl) | (rw [HT.out,Ac.out];go_num),by first | exact mY.out | exact mY.out.drew | exact fD mY.out _⟩
     case measure=>simp [intOf];omega
    | true=>
     cases c with
     | false=>
      have HT:=ak (sG HX.out (by rw [Xw.out];rfl))
      go_wp2_with fail
      refine dX (S:=(fun V=>Below (wr).heap.size (wr) V)) (by kernel_rfl) ((aW _ _).drew) (fun ah=>?_)
      refine tk 0 ah ?_
      refine tk 1 ah ?_
      refine tk 2 ah ?_
      refine tk 3 ah ?_
      refine tk 4 ah ?_ (hy:=fun w aj=>by (try dsimp only at aj);have k0:=(aj.cell (p:=⟨g,o+k*14,none⟩) hgl).trans e0;have k1:=(aj.cell (p:=⟨g,o+k*14+1,none⟩) hgl).trans e1;clear aj;go_simp;try with_reducible rfl)
      refine tk 5 ah ?_ (hy:=fun w aj=>by (try dsimp only at aj);have k0:=Sw.out.hat aj 0 rfl;have k1:=Sw.out.hat aj 1 rfl;clear aj;go_simp;try with_reducible rfl)
      refine tk 6 ah ?_
      refine tk 7 ah ?_
      refine tk 8 ah ?_
      refine tk 9 ah ?_
      refine tk 10 ah ?_
      refine tk 11 ah ?_
      refine tk 12 ah ?_ (hy:=fun w aj=>by (try dsimp only at aj);have k0:=(aj.cell (p:=⟨g,o+k*14+11,none⟩) hgl).trans e11;clear aj;go_simp;try with_reducible rfl)
      refine dw 13 (fun K hK=>?_)
      go_simp
      go_at_call 167
      refine (Ib _ HC.out _).mono ?_
      rintro e w3 ⟨rfl,hb⟩
      refine hK.out _ _ (ah.trans (hb.mono ah.size)) (fun ah=>?_)
      clear hK K hb
      refine tk 14 ah ?_
      refine dQ ?_
      have HF:=ak ah
      clear ah
      have mY:=ak (HB.out.trans (HF.out.mono hsz))
      go_wp2
      go_roundw
      case rel=>exact ⟨k+1,by omega,by go_num,by first | (rw [HT.out,Ac.out];done) | (rw [HT.out,Ac.out];rfl) | (rw [HT.out,Ac.out];go_num),by first | exact mY.out | exact mY.out.drew | exact fD mY.out _⟩
      case measure=>simp [intOf];omega
     | true=>
      have HT:=ak (BO HX.out (by rw [Xw.out];rfl))
      go_wp2_with fail
      refine dX (S:=(fun V=>Below (wr).heap.size (wr) V)) (by kernel_rfl) ((aW _ _).drew) (fun ah=>?_)
      refine tk 0 ah ?_
      refine tk 1 ah ?_
      refine tk 2 ah ?_
      refine tk 3 ah ?_
      refine tk 4 ah ?_ (hy:=fun w aj=>by (try dsimp only at aj);have k0:=(aj.cell (p:=⟨g,o+k*14,none⟩) hgl).trans e0;have k1:=(aj.cell (p:=⟨g,o+k*14+1,none⟩) hgl).trans e1;clear aj;go_simp;try with_reducible rfl)
      refine tk 5 ah ?_ (hy:=fun w aj=>by (try dsimp only at aj);have k0:=Sw.out.hat aj 0 rfl;have k1:=Sw.out.hat aj 1 rfl;clear aj;go_simp;try with_reducible rfl)
      refine tk 6 ah ?_
      refine tk 7 ah ?_
      refine tk 8 ah ?_
      refine tk 9 ah ?_
      refine tk 10 ah ?_
      refine tk 11 ah ?_
      refine tk 12 ah ?_ (hy:=fun w aj=>by (try dsimp only at aj);have k0:=(aj.cell (p:=⟨g,o+k*14+11,none⟩) hgl).trans e11;clear aj;go_simp;try with_reducible rfl)
      refine dw 13 (fun K hK=>?_)
      go_simp
      go_at_call 167
      refine (Ib _ HC.out _).mono ?_
      rintro e w3 ⟨rfl,hb⟩
      refine hK.out _ _ (ah.trans (hb.mono ah.size)) (fun ah=>?_)
      clear hK K hb
      refine tk 14 ah ?_
      refine dQ ?_
      have HF:=ak ah
      clear ah
      have mY:=ak (HB.out.trans (HF.out.mono hsz))
      go_wp2
      go_roundw
      case rel=>exact ⟨k+1,by omega,by go_num,by first | (rw [HT.out,Ac.out];done) | (rw [HT.out,Ac.out];rfl) | (rw [HT.out,Ac.out];go_num),by first | exact mY.out | exact mY.out.drew | exact fD mY.out _⟩
      case measure=>simp [intOf];omega
   ·have hdl:decide ((k:Int)<(L.length:Int))=false:=dS (by omega)
    obtain rfl:k=L.length:=by omega
    clear hB
    go_wp2
    go_ret
    exact ⟨by rw [HE.out];rfl,uJ.out⟩
end
section
open Go.RowKit bN bO bJ bQ eO CF
def endT (x:aF):Int:=jW x+1+Dt x
def pK (now:Int)(x:aF):Prop:=(kU x=2→jW x≤now∧now<endT x)∧(kU x≠2→0<(jF x).length→now<jW x∧jW x≤now+40)
def vL (C:List (List ay))(now:Int)(x:aF):Prop:=acz x≤(gJ C (Ey x)).length∧aaq x≤now∧(∀ n∈jF x,n∈gJ C (Ey x))∧pK now x
def fJ (T:List aF)(i:Nat)(n:Int):Prop:=∃ j x,j<i∧T[j]? = some x∧kU x=2∧n∈jF x
def oneT (T:List aF)(i:Nat)(x:aF):Prop:=kU x=2→∀ n∈jF x,¬fJ T i n
def okY (C:List (List ay))(now:Int)(T:List aF)(i:Nat)(x:aF):Prop:=vL C now x∧oneT T i x
def qU (C:List (List ay))(now:Int)(T:List aF)(k:Nat):Prop:=∀ i x,i<k→T[i]? = some x→okY C now T i x
def xS (C:List (List ay))(U:List bI):Prop:=∀ (i:Nat)(u:bI),U[i]? = some u→u.1∈iw C
def oP (C:List (List ay))(Q:List aX)(T:List aF):Prop:=∀ (i:Nat)(a:ay),(iw C)[i]? = some a→(fK T a T.length:Int)≤gI Q a
def iq:dF→Prop
 | ((C,P,Q,hf),N,T,U,now)=>dD now 0 999900=true∧oG C P Q hf∧qM N∧N.length=C.length∧pQ T∧yL U∧qU C now T T.length∧xS C U∧oP C Q T
open Classical in
noncomputable def vR (y:dF):Bool:=decide (iq y)
open Classical in
theorem rW {y:dF}:vR y=true↔iq y:=by unfold vR;simp
theorem BX {C:List (List ay)}{now:Int}{T:List aF}:qU C now T 0:=fun i x h=>absurd h (gZ _)
theorem qj {C:List (List ay)}{now:Int}{T:List aF}{k:Nat}{x:aF}(h:qU C now T k)(hx:T[k]? = some x)(hk:okY C now T k x):qU C now T (k+1):=fun i y hi hy=>by
 rcases Nat.lt_succ_iff_lt_or_eq.1 hi with h1 | h1
 ·exact h i y h1 hy
 ·subst h1;rw [hx] at hy;cases hy;exact hk
theorem yP {T:List aF}{n:Int}:¬fJ T 0 n:=fun ⟨j,x,h,_⟩=>absurd h (gZ _)
theorem nS {T:List aF}{k:Nat}{x:aF}{n:Int}(hx:T[k]? = some x):fJ T (k+1) n↔fJ T k n∨(kU x=2∧n∈jF x):=by
 constructor
 ·rintro ⟨j,y,hj,hy,h1,h2⟩
  rcases Nat.lt_succ_iff_lt_or_eq.1 hj with h | h
  ·exact .inl ⟨j,y,h,hy,h1,h2⟩
  ·subst h;rw [hx] at hy;cases hy;exact .inr ⟨h1,h2⟩
 ·rintro (⟨j,y,hj,hy,h1,h2⟩ | ⟨h1,h2⟩)
  ·exact ⟨j,y,by omega,hy,h1,h2⟩
  ·exact ⟨k,x,by omega,hx,h1,h2⟩
theorem yX {L:List Int}(h:mP L){i j:Nat}{x:Int}(hi:L[i]? = some x)(hj:L[j]? = some x):i=j:=by
 have key:∀ (d i:Nat) (x y:Int),L[i]? = some x→L[i+d+1]? = some y→x<y:=by
  intro d
  induction d with
  | zero=>
   intro i x y hx hy
   have hl:=(List.getElem?_eq_some_iff.1 hy).1
   have:=(h (i+1) hl y hy).2 (by omega) x (by rw [Nat.add_sub_cancel];exact hx)
   exact this
  | succ d ih=>
   intro i x y hx hy
   have hl:=(List.getElem?_eq_some_iff.1 hy).1
   obtain ⟨z,hz⟩:∃ z,L[i+d+1]? = some z:=⟨L[i+d+1]'(by omega),List.getElem?_eq_getElem (by omega)⟩
   have h1:=ih i x z hx hz
   have h2:=(h (i+(d+1)+1) hl y hy).2 (by omega) z (by rw [Nat.add_sub_cancel];exact hz)
   omega
 rcases Nat.lt_trichotomy i j with h1 | h1 | h1
 ·have:=key (j-i-1) i x x hi (by rw [show i+(j-i-1)+1=j by omega];exact hj)
  omega
 ·exact h1
 ·have:=key (i-j-1) j x x hj (by rw [show j+(i-j-1)+1=i by omega];exact hi)
  omega
theorem vk {L:List Int}(h:mP L){i:Nat}{x:Int}(hi:L[i]? = some x):0≤x∧x≤5:=by
 have hl:=(List.getElem?_eq_some_iff.1 hi).1
 have key:∀ (i:Nat) (x:Int),L[i]? = some x→(i:Int)≤x∧x≤5:=by
  intro i
  induction i with
  | zero=>intro x hx;exact (dG _ _ _).1 (h 0 (List.getElem?_eq_some_iff.1 hx).1 x hx).1 |> fun h=>⟨by omega,h.2⟩
  | succ i ih=>
   intro x hx
   have hl:=(List.getElem?_eq_some_iff.1 hx).1
   obtain ⟨z,hz⟩:∃ z,L[i]? = some z:=⟨L[i]'(by omega),List.getElem?_eq_getElem (by omega)⟩
   have h1:=ih z hz
   have h2:=(h (i+1) hl x hx).2 (by omega) z (by rw [Nat.add_sub_cancel];exact hz)
   have h3:=(dG _ _ _).1 (h (i+1) hl x hx).1
   omega
 have:=key i x hi
 omega
theorem yY {C:List (List ay)}{a:ay}{n:Int}:n∈gJ C a↔∃ (k:Nat)(x:List ay),C[k]? = some x∧n=(k:Int)∧a∈x:=by
 unfold gJ gX
 simp only [List.mem_map,List.mem_filter,List.mem_range,decide_eq_true_eq]
 constructor
 ·rintro ⟨k,⟨hk,x,hx,ha⟩,rfl⟩
  exact ⟨k,x,hx,rfl,ha⟩
 ·rintro ⟨k,x,hx,rfl,ha⟩
  exact ⟨k,⟨(List.getElem?_eq_some_iff.1 hx).1,x,hx,ha⟩,rfl⟩
end
end aQ
end Go.Proofs.YtlhfiapfncikdaaGreatDoor
