import Derived.Test.YtlhfiapfncikdaaGreatDoorPU18
import Derived.Test.YtlhfiapfncikdaaGreatDoorPU20
set_option linter.unusedVariables false
set_option linter.unusedSimpArgs false
set_option maxRecDepth 100000
set_option maxHeartbeats 3200000
namespace Go.Proofs.YtlhfiapfncikdaaGreatDoor.aP
section
open Go.RowKit bN bP bJ bM fT
def Gj (x:aG)(a:av):Bool:=decide (Eo x=a)&&dI (pG x) 1 3
def fG (L:List aG)(a:av)(k:Nat):Nat:=((L.take k).filter (fun x=>Gj x a)).length
noncomputable def ED (L:List aG)(a:av):Int:=if ou L=true then (fG L a L.length:Int) else 0
theorem BL {L:List aG}{a:av}(h:ou L=true):ED L a=(fG L a L.length:Int):=if_pos h
theorem QO {L:List aG}{a:av}(h:ou L=false):ED L a=0:=if_neg (by rw [h];decide)
theorem yM {L:List aG}{a:av}:fG L a 0=0:=by simp [fG]
theorem BK {L:List aG}{a:av}{k:Nat}{x:aG}(hx:L[k]? = some x)(h:Gj x a=true):fG L a (k+1)=fG L a k+1:=by
 unfold fG
 rw [List.take_add_one,hx,Option.toList_some,List.filter_append,List.length_append]
 simp [h]
theorem rY {L:List aG}{a:av}{k:Nat}{x:aG}(hx:L[k]? = some x)(h:Gj x a=false):fG L a (k+1)=fG L a k:=by
 unfold fG
 rw [List.take_add_one,hx,Option.toList_some,List.filter_append,List.length_append]
 simp [h]
theorem DX {L:List aG}{a:av}(k:Nat):fG L a k≤k:=by
 unfold fG
 exact eH (List.length_filter_le _ _) (List.length_take_le _ _)
theorem G8 (st:Int){b:Bool}(hb:dI st 1 3=b)(w:World):Calls Tryz.prog 167 #[.int .i64 st] w fun e w'=>e=.returned (.bool b)∧Below w.heap.size w w':=by
 by_cases h1:st=1
 ·have h1':(st==1)=true:=beq_iff_eq.2 h1
  have HE:=aj (show b=true from by rw [←hb,dG];omega)
  clear h1
  go_enter Tryz.func167,Tryz.ntmps167
  go_wp2
  go_ret
  exact ⟨by rw [HE.out];rfl,aU _ _⟩
 have h1':(st==1)=false:=beq_eq_false_iff_ne.2 h1
 by_cases h2:st=2
 ·have h2':(st==2)=true:=beq_iff_eq.2 h2
  have HE:=aj (show b=true from by rw [←hb,dG];omega)
  clear h2 h1
  go_enter Tryz.func167,Tryz.ntmps167
  go_wp2
  go_ret
  exact ⟨by rw [HE.out];rfl,aU _ _⟩
 have h2':(st==2)=false:=beq_eq_false_iff_ne.2 h2
 have HE:=aj (show b=(st==3) from by
  rw [←hb,Bool.eq_iff_iff,dG,beq_iff_eq];omega)
 clear h1 h2
 go_enter Tryz.func167,Tryz.ntmps167
 go_wp2
 go_ret
 exact ⟨by rw [HE.out];rfl,aU _ _⟩
def OfL (L:List aG)(a:av)(W:World)(e:Ending)(w':World):Prop:=e=.returned (.int .i64 (ED L a))∧Below W.heap.size W w'
theorem QN {L:List aG}{a:Option Addr}{cap:Nat}{l0 l1:Int}{W:World}(h:aH aI W W.heap.size L a cap) :
 Calls Tryz.prog 104 #[.slice a L.length cap,.agg #[.int .i64 l0,.int .i64 l1]] W (OfL L (l0,l1) W):=by
 have hn:L.length≤9223372036854775807:=by have h1:=h.1;have h2:=h.2.1;unfold maxLen at h2;omega
 have H:=aj h
 clear h
 obtain ⟨wa,L6⟩:∃ w,w=W.alloc (.cells #[.int .i64 l0,.int .i64 l1] 49):=⟨_,rfl⟩
 have JF:=aj (show Below W.heap.size W wa from by rw [L6];exact (aU _ _).alloc (bK _) _)
 have HPA:=aj (show aN wa W.heap.size 49 #[.int .i64 l0,.int .i64 l1] from by rw [L6];exact aN.new _ _ _)
 have HA:=aj ((H.out.below ay JF.out).more ay JF.out.size)
 go_enter Tryz.func104,Tryz.ntmps104
 go_wp2_with fail
 rw [←L6]
 clear L6
 refine (Bq HA.out).mono ?_
 intro e w1 h
 obtain ⟨rfl,hb⟩:=bT h
 have HB1:=aj (JF.out.trans (hb.mono JF.out.size))
 have dh:=aj (HPA.out.call hb)
 have HA1:=aj ((HA.out.below ay hb).more ay hb.size)
 clear h hb HPA HA
 cases hq:ou L with
 | false=>
  have HE:=aj (QO (a:=(l0,l1)) hq)
  clear hq
  go_wp2
  go_ret
  exact ⟨by rw [HE.out];rfl,HB1.out⟩
 | true=>
  have HE:=aj (BL (a:=(l0,l1)) hq)
  have HR:=aj (jq.1 hq)
  have hn96:L.length≤96:=HR.out.1
  clear hq
  go_wp2
  go_loopw [5,6] (fun q i wr=>∃ k:Nat,k≤L.length∧i=.int .i64 k∧q=.int .i64 (fG L (l0,l1) k)∧Below w1.heap.size w1 wr) (fun _ i _=>L.length-(intOf i).toNat)
  case atStart=>exact ⟨0,dX _,rfl,by rw [yM];rfl,aU _ _⟩
  case round=>
   obtain ⟨k,hk,rfl,rfl,hB⟩:=hrel
   have HB:=aj hB
   have uq:=aj (HB1.out.trans (hB.mono HB1.out.size))
   have hsz:=hB.size
   by_cases hlt:k<L.length
   ·skip
    obtain ⟨⟨⟨x0,x1⟩,x2,x3,x4,x5,x6,⟨x7,x8⟩,x9,x10,aR,aW,M⟩,hx⟩:=aL hlt
    have HX:=aj hx
    obtain ⟨g,o,us,rfl,hg,hu,hr⟩:=(HA1.out.below ay hB).at_ hx
    obtain ⟨ba,bc,rfl,sH,gW⟩:=fu hr
    obtain ⟨e0,e1,e2,e3,e4,e5,e6,e7,e8,e9,e10,e11,e12,e13⟩:=qz (a:=o+k*14) hu rfl
    have R4:=aj (dh.out.call hB)
    have hi0:(0:Int)≤(k:Int):=eu _
    have hi1:(k:Int)<(L.length:Int):=by omega
    have hgl:g<wr.heap.size:=bV hg hsz
    have hle:=DX (L:=L) (a:=(l0,l1)) k
    obtain ⟨n,hnn⟩:∃ n,fG L (l0,l1) k=n:=⟨_,rfl⟩
    have zU:=aj hnn
    rw [hnn] at hle
    rw [hnn]
    have hnw:IntKind.i64.wrap ((n:Int)+1)=(n:Int)+1:=gJ _ (by omega)
    clear hnn
    obtain ⟨b,hb⟩:∃ b,decide (((x0,x1):Int×Int)=(l0,l1))=b:=⟨_,rfl⟩
    have hq:=iK x0 x1 l0 l1 b hb
    obtain ⟨c,hc⟩:∃ c,dI aR 1 3=c:=⟨_,rfl⟩
    have HLV:=aj (show Gj ((x0,x1),x2,x3,x4,x5,x6,(x7,x8),x9,x10,aR,aW,M) (l0,l1)=(b&&c) from by rw [←hb,←hc];rfl)
    have HC:=aj hc
    clear hu hr hg hB hx sH hb hc
    cases b with
    | false=>
     have HT:=aj (rY HX.out (by rw [HLV.out];rfl))
     go_wp2_with fail
     refine dW (S:=(fun V=>Below (wr).heap.size (wr) V)) (by kernel_rfl) ((aU _ _).drew) (fun ah=>?_)
     refine tk 0 ah ?_
     refine tk 1 ah ?_
     refine tk 2 ah ?_
     refine tk 3 ah ?_
     refine tk 4 ah ?_ (hy:=fun w hSw=>by (try dsimp only at hSw);have k0:=(hSw.cell (p:=⟨g,o+k*14,none⟩) hgl).trans e0;have k1:=(hSw.cell (p:=⟨g,o+k*14+1,none⟩) hgl).trans e1;clear hSw;go_simp;try with_reducible rfl)
     refine tk 5 ah ?_ (hy:=fun w hSw=>by (try dsimp only at hSw);have k0:=R4.out.hat hSw 0 rfl;have k1:=R4.out.hat hSw 1 rfl;clear hSw;go_simp;try with_reducible rfl)
     refine tk 6 ah ?_
     refine tk 7 ah ?_
     refine tn 8 ah ?_
     refine tn 9 ah ?_
     refine tn 10 ah ?_
     refine tn 11 ah ?_
     refine tn 12 ah ?_
     refine tn 13 ah ?_
     refine tk 14 ah ?_
     refine dQ ?_
     have HF:=aj ah
     clear ah
     have nu:=aj (HB.out.trans (HF.out.mono hsz))
     go_wp2
     go_roundw
     case rel=>exact ⟨k+1,by omega,by go_num,by first | (rw [HT.out,zU.out];done) | (rw [HT.out,zU.out];rfl) | (rw [HT.out,zU.out];go_num),by first | exact nu.out | exact nu.out.drew | exact fC nu.out _⟩
     case measure=>simp [intOf];omega
    | true=>
     cases c with
     | false=>
      have HT:=aj (rY HX.out (by rw [HLV.out];rfl))
      go_wp2_with fail
      refine dW (S:=(fun V=>Below (wr).heap.size (wr) V)) (by kernel_rfl) ((aU _ _).drew) (fun ah=>?_)
      refine tk 0 ah ?_
      refine tk 1 ah ?_
      refine tk 2 ah ?_
      refine tk 3 ah ?_
      refine tk 4 ah ?_ (hy:=fun w hSw=>by (try dsimp only at hSw);have k0:=(hSw.cell (p:=⟨g,o+k*14,none⟩) hgl).trans e0;have k1:=(hSw.cell (p:=⟨g,o+k*14+1,none⟩) hgl).trans e1;clear hSw;go_simp;try with_reducible rfl)
      refine tk 5 ah ?_ (hy:=fun w hSw=>by (try dsimp only at hSw);have k0:=R4.out.hat hSw 0 rfl;have k1:=R4.out.hat hSw 1 rfl;clear hSw;go_simp;try with_reducible rfl)
      refine tk 6 ah ?_
      refine tk 7 ah ?_
      refine tk 8 ah ?_
      refine tk 9 ah ?_
      refine tk 10 ah ?_
      refine tk 11 ah ?_
      refine tk 12 ah ?_ (hy:=fun w hSw=>by (try dsimp only at hSw);have k0:=(hSw.cell (p:=⟨g,o+k*14+11,none⟩) hgl).trans e11;clear hSw;go_simp;try with_reducible rfl)
      refine cZ 13 (fun K hK=>?_)
      go_simp
      go_at_call 167
      refine (G8 _ HC.out _).mono ?_
      rintro e w3 ⟨rfl,hb⟩
      refine hK.out _ _ (ah.trans (hb.mono ah.size)) (fun ah=>?_)
      clear hK K hb
      refine tk 14 ah ?_
      refine dQ ?_
      have HF:=aj ah
      clear ah
      have nu:=aj (HB.out.trans (HF.out.mono hsz))
      go_wp2
      go_roundw
      case rel=>exact ⟨k+1,by omega,by go_num,by first | (rw [HT.out,zU.out];done) | (rw [HT.out,zU.out];rfl) | (rw [HT.out,zU.out];go_num),by first | exact nu.out | exact nu.out.drew | exact fC nu.out _⟩
      case measure=>simp [intOf];omega
     | true=>
      have HT:=aj (BK HX.out (by rw [HLV.out];rfl))
      go_wp2_with fail
      refine dW (S:=(fun V=>Below (wr).heap.size (wr) V)) (by kernel_rfl) ((aU _ _).drew) (fun ah=>?_)
      refine tk 0 ah ?_
      refine tk 1 ah ?_
      refine tk 2 ah ?_
      refine tk 3 ah ?_
      refine tk 4 ah ?_ (hy:=fun w hSw=>by (try dsimp only at hSw);have k0:=(hSw.cell (p:=⟨g,o+k*14,none⟩) hgl).trans e0;have k1:=(hSw.cell (p:=⟨g,o+k*14+1,none⟩) hgl).trans e1;clear hSw;go_simp;try with_reducible rfl)
      refine tk 5 ah ?_ (hy:=fun w hSw=>by (try dsimp only at hSw);have k0:=R4.out.hat hSw 0 rfl;have k1:=R4.out.hat hSw 1 rfl;clear hSw;go_simp;try with_reducible rfl)
      refine tk 6 ah ?_
      refine tk 7 ah ?_
      refine tk 8 ah ?_
      refine tk 9 ah ?_
      refine tk 10 ah ?_
      refine tk 11 ah ?_
      refine tk 12 ah ?_ (hy:=fun w hSw=>by (try dsimp only at hSw);have k0:=(hSw.cell (p:=⟨g,o+k*14+11,none⟩) hgl).trans e11;clear hSw;go_simp;try with_reducible rfl)
      refine cZ 13 (fun K hK=>?_)
      go_simp
      go_at_call 167
      refine (G8 _ HC.out _).mono ?_
      rintro e w3 ⟨rfl,hb⟩
      refine hK.out _ _ (ah.trans (hb.mono ah.size)) (fun ah=>?_)
      clear hK K hb
      refine tk 14 ah ?_
      refine dQ ?_
      have HF:=aj ah
      clear ah
      have nu:=aj (HB.out.trans (HF.out.mono hsz))
      go_wp2
      go_roundw
      case rel=>exact ⟨k+1,by omega,by go_num,by first | (rw [HT.out,zU.out];done) | (rw [HT.out,zU.out];rfl) | (rw [HT.out,zU.out];go_num),by first | exact nu.out | exact nu.out.drew | exact fC nu.out _⟩
      case measure=>simp [intOf];omega
   ·have hdl:decide ((k:Int)<(L.length:Int))=false:=dU (by omega)
    obtain rfl:k=L.length:=by omega
    clear hB
    go_wp2
    go_ret
    exact ⟨by rw [HE.out];rfl,uq.out⟩
end
section
open Go.RowKit bN bP bJ bM fT Cx
def endT (x:aG):Int:=jY x+1+Dl x
def pI (now:Int)(x:aG):Prop:=(pG x=2→jY x≤now∧now<endT x)∧(pG x≠2→0<(kV x).length→now<jY x∧jY x≤now+40)
def vo (C:List (List av))(now:Int)(x:aG):Prop:=ach x≤(gI C (Eo x)).length∧aac x≤now∧(∀ n∈kV x,n∈gI C (Eo x))∧pI now x
def fF (T:List aG)(i:Nat)(n:Int):Prop:=∃ j x,j<i∧T[j]? = some x∧pG x=2∧n∈kV x
def oneT (T:List aG)(i:Nat)(x:aG):Prop:=pG x=2→∀ n∈kV x,¬fF T i n
def okY (C:List (List av))(now:Int)(T:List aG)(i:Nat)(x:aG):Prop:=vo C now x∧oneT T i x
def qO (C:List (List av))(now:Int)(T:List aG)(k:Nat):Prop:=∀ i x,i<k→T[i]? = some x→okY C now T i x
def xE (C:List (List av))(U:List bH):Prop:=∀ (i:Nat)(u:bH),U[i]? = some u→u.1∈iw C
def oK (C:List (List av))(Q:List aV)(T:List aG):Prop:=∀ (i:Nat)(a:av),(iw C)[i]? = some a→(fG T a T.length:Int)≤gH Q a
def iq:dK→Prop
 | ((C,P,Q,hf),N,T,U,now)=>dI now 0 999900=true∧oo C P Q hf∧qJ N∧N.length=C.length∧pK T∧yx U∧qO C now T T.length∧xE C U∧oK C Q T
open Classical in
noncomputable def vF (y:dK):Bool:=decide (iq y)
open Classical in
theorem rM {y:dK}:vF y=true↔iq y:=by unfold vF;simp
theorem BQ {C:List (List av)}{now:Int}{T:List aG}:qO C now T 0:=fun i x h=>absurd h (gT _)
theorem qg {C:List (List av)}{now:Int}{T:List aG}{k:Nat}{x:aG}(h:qO C now T k)(hx:T[k]? = some x)(hk:okY C now T k x):qO C now T (k+1):=fun i y hi hy=>by
 rcases Nat.lt_succ_iff_lt_or_eq.1 hi with h1 | h1
 ·exact h i y h1 hy
 ·subst h1;rw [hx] at hy;cases hy;exact hk
theorem yD {T:List aG}{n:Int}:¬fF T 0 n:=fun ⟨j,x,h,_⟩=>absurd h (gT _)
theorem nJ {T:List aG}{k:Nat}{x:aG}{n:Int}(hx:T[k]? = some x):fF T (k+1) n↔fF T k n∨(pG x=2∧n∈kV x):=by
 constructor
 ·rintro ⟨j,y,hj,hy,h1,h2⟩
  rcases Nat.lt_succ_iff_lt_or_eq.1 hj with h | h
  ·exact .inl ⟨j,y,h,hy,h1,h2⟩
  ·subst h;rw [hx] at hy;cases hy;exact .inr ⟨h1,h2⟩
 ·rintro (⟨j,y,hj,hy,h1,h2⟩ | ⟨h1,h2⟩)
  ·exact ⟨j,y,by omega,hy,h1,h2⟩
  ·exact ⟨k,x,by omega,hx,h1,h2⟩
theorem yK {L:List Int}(h:mI L){i j:Nat}{x:Int}(hi:L[i]? = some x)(hj:L[j]? = some x):i=j:=by
 have key:∀ (d i:Nat) (x y:Int),L[i]? = some x→L[i+d+1]? = some y→x<y:=by
  intro d
  induction d with
  | zero=>
   intro i x y hx hy
   have hl:=(List.getElem?_eq_some_iff.1 hy).1
   have:=(h (i+1) hl y hy).2 (by omega) x (by rw [Nat.add_sub_cancel];exact hx)
   exact this
  | succ d ih=>
   intro i x y hx hy
   have hl:=(List.getElem?_eq_some_iff.1 hy).1
   obtain ⟨z,hz⟩:∃ z,L[i+d+1]? = some z:=⟨L[i+d+1]'(by omega),List.getElem?_eq_getElem (by omega)⟩
   have h1:=ih i x z hx hz
   have h2:=(h (i+(d+1)+1) hl y hy).2 (by omega) z (by rw [Nat.add_sub_cancel];exact hz)
   omega
 rcases Nat.lt_trichotomy i j with h1 | h1 | h1
 ·have:=key (j-i-1) i x x hi (by rw [show i+(j-i-1)+1=j by omega];exact hj)
  omega
 ·exact h1
 ·have:=key (i-j-1) j x x hj (by rw [show j+(i-j-1)+1=i by omega];exact hi)
  omega
theorem uP {L:List Int}(h:mI L){i:Nat}{x:Int}(hi:L[i]? = some x):0≤x∧x≤5:=by
 have hl:=(List.getElem?_eq_some_iff.1 hi).1
 have key:∀ (i:Nat) (x:Int),L[i]? = some x→(i:Int)≤x∧x≤5:=by
  intro i
  induction i with
  | zero=>intro x hx;exact (dG _ _ _).1 (h 0 (List.getElem?_eq_some_iff.1 hx).1 x hx).1 |> fun h=>⟨by omega,h.2⟩
  | succ i ih=>
   intro x hx
   have hl:=(List.getElem?_eq_some_iff.1 hx).1
   obtain ⟨z,hz⟩:∃ z,L[i]? = some z:=⟨L[i]'(by omega),List.getElem?_eq_getElem (by omega)⟩
   have h1:=ih z hz
   have h2:=(h (i+1) hl x hx).2 (by omega) z (by rw [Nat.add_sub_cancel];exact hz)
   have h3:=(dG _ _ _).1 (h (i+1) hl x hx).1
   omega
 have:=key i x hi
 omega
theorem yL {C:List (List av)}{a:av}{n:Int}:n∈gI C a↔∃ (k:Nat)(x:List av),C[k]? = some x∧n=(k:Int)∧a∈x:=by
 unfold gI gZ
 simp only [List.mem_map,List.mem_filter,List.mem_range,decide_eq_true_eq]
 constructor
 ·rintro ⟨k,⟨hk,x,hx,ha⟩,rfl⟩
  exact ⟨k,x,hx,rfl,ha⟩
 ·rintro ⟨k,x,hx,rfl,ha⟩
  exact ⟨k,⟨(List.getElem?_eq_some_iff.1 hx).1,x,hx,ha⟩,rfl⟩
end
section
open Go.RowKit bN bP
theorem below_setCells {B b:Nat}{w:World}(hB:B≤b):∀ (vs:List Value)(o:Nat)(W:World),Below B w W→Below B w (W.setCells b o vs)
 | [],_,_,h=>h
 | v::r,o,W,h=>below_setCells hB r (o+1) _ (h.setCell (p:=⟨b,o,none⟩) hB v)
theorem size_setCells {b:Nat}:∀ (vs:List Value)(o:Nat)(W:World),(W.setCells b o vs).heap.size=W.heap.size
 | [],_,_=>rfl
 | v::r,o,W=>by rw [World.setCells,size_setCells r];simp
theorem Qn {P:Program}(w:World){dT sT ty elem:TypeId}{i:TypeInfo}(hu:P.underlying dT=some (.slice elem))(hi:P.info? elem=some i)(b o dLen dCap:Nat)(a:Addr)(sLen sCap:Nat)(cs:List Value)(n:Nat)(hn:Nat.min sLen dLen=n)(hlen:cs.length=n*i.size)
 (hsrc:∀ j v,cs[j]? = some v→w.cell? (a.add j)=some v) (hc:∀ j,j<cs.length→(w.cell? ⟨b,o+j,none⟩).isSome=true) (hf:∀ j,j<cs.length→w.frozen? ⟨b,o+j,none⟩=false) (h1:∀ v∈cs,v.oneCell'=true) :
 (Builtin.copy_ #[dT,sT] ty #[.slice (some ⟨b,o,none⟩) dLen dCap,.slice (some a) sLen sCap]).run P w=.ok (.int .i64 n) (w.setCells b o cs):=by
 have hl:=run_loadCells_list (P:=P) w a cs hsrc
 have hst:=run_storeCells_cells (P:=P) b o cs 0 w (by simpa using hc) (by simpa using hf) h1
 rw [hlen] at hl
 simp [Builtin.copy_,run_underlying hu,Builtin.lenOf,Builtin.firstCells,sizeOf,typeInfo,hi,hn,hl,hst,goInt]
theorem Qo {P:Program}(w:World){dT sT ty elem:TypeId}{i:TypeInfo}(hu:P.underlying dT=some (.slice elem))(hi:P.info? elem=some i)(d a:Option Addr)(dLen dCap sLen sCap:Nat)(hn:Nat.min sLen dLen=0) :
 (Builtin.copy_ #[dT,sT] ty #[.slice d dLen dCap,.slice a sLen sCap]).run P w=.ok (.int .i64 0) w:=by
 have hl:∀ (x:Addr),(loadCells x 0).run P w=.ok #[] w:=fun x=>by simpa using run_loadCells_list (P:=P) w x [] (by simp)
 cases d <;> cases a <;> simp [Builtin.copy_,run_underlying hu,Builtin.lenOf,Builtin.firstCells,sizeOf,typeInfo,hi,hn,storeCells,hl,goInt]
theorem abI {α:Type}{E:Rp α}(hE:Ok E){L:List α}{a:Option Addr}{cap:Nat}{w w':World}(h:aH E w w.heap.size L a cap)(hb:Below w.heap.size w w'):aH E w' w'.heap.size L a cap:=(h.below hE hb).more hE hb.size
abbrev J3:Nat→Nat→Prop:=fun _ _=>False
def fS (x:bL):List Value:=[.int .i64 x.1,.int .i64 x.2]
theorem WA {w W:World}{L M:List bL}{g k:Nat}{dp ba:Option Addr}{bc:Nat}{ty:TypeId}(hF:sJ bg w W L g J3 k)(hkM:k+M.length≤L.length)(hsub:∀ i x,M[i]? = some x→L[k+i]? = some x)(hdp:k<L.length→dp=some ⟨g,k*2,none⟩)(hM:aH bg W W.heap.size M ba bc) :
 ∃ w',(Builtin.copy_ #[122,122] ty #[.slice dp (L.length-k) (L.length-k),.slice ba M.length bc]).run Tryz.prog W=.ok (.int .i64 M.length) w'∧sJ bg w w' L g J3 (k+M.length):=by
 obtain ⟨i,hi,hz,hs,hby⟩:=Bg
 have ht:Tryz.prog.underlying 122=some (.slice 61):=Tryz.underlying122
 by_cases h0:M.length=0
 ·exact ⟨W,by rw [h0];exact Qo W ht hi _ _ _ _ _ _ (by simp),by rw [h0];exact hF⟩
 obtain ⟨g',o,rfl,hg',hel⟩:=hM.2.2 (by omega)
 obtain rfl:=hdp (by omega)
 have hfl:(M.flatMap fS).length=M.length*2:=qY bC jT W M
 have Km:∀ j,j<M.length*2→∃ u,W.cell? ⟨g,k*2+j,none⟩=some u:=fun j hj=>hF.there _ (by rw [dL];omega)
 have hcells:aQ W g' o (M.flatMap fS):=oC bC jT W g' M o fun q x hx=>by
  obtain ⟨us,hu,hr⟩:=hel q x hx
  rw [←jT.rd hr]
  exact hu
 have hrun:=Qn (P:=Tryz.prog) W (dT:=122) (sT:=122) (ty:=ty) ht hi g (k*2) (L.length-k) (L.length-k) ⟨g',o,none⟩ M.length bc (M.flatMap fS) M.length (by show min M.length (L.length-k)=_;omega) (by rw [hs];exact hfl)
  (fun j v hj=>by rw [show (⟨g',o,none⟩:Addr).add j=⟨g',o+j,none⟩ by unfold Addr.add;split <;> simp_all];exact hcells j v hj)
  (fun j hj=>by obtain ⟨u,hu⟩:=Km j (by omega);rw [hu];rfl) (fun j _=>hF.soft _)
  (fun v hv=>by obtain ⟨y,_,hv⟩:=List.mem_flatMap.1 hv;simp [fS] at hv;rcases hv with rfl | rfl <;> rfl)
 refine ⟨_,hrun,fun q x hq hx=>?_,fun j hj=>?_,fun j=>by rw [World.frozen?_setCells];exact hF.soft j,fun _ _ h=>h.elim,fun _ _ _ _ h=>h.elim,hF.base,by rw [size_setCells];exact hF.lt,?_⟩
 ·refine ⟨fS x,fun j d hj=>?_,jT.ow _ _ _⟩
  have hj2:j<2:=(List.getElem?_eq_some_iff.1 hj).1
  rw [dL]
  by_cases hqk:q<k
  ·rw [World.cell?_setCells_out _ _ _ _ _ (fun _ _=>.inl (by show q*2+j<k*2;omega))]
   obtain ⟨us,hu,hr⟩:=hF.el q x hqk hx
   have e:us=fS x:=by obtain ⟨x0,x1⟩:=x;exact Bc hr
   subst e
   have:=hu j d hj
   rwa [dL] at this
  ·obtain ⟨p,rfl⟩:∃ p,q=k+p:=⟨q-k,by omega⟩
   have hp:p<M.length:=by omega
   obtain ⟨y,hy⟩:=aL hp
   have:=hsub p y hy
   rw [hx] at this
   obtain rfl:=fB this
   have hfm:(M.flatMap fS)[p*2+j]? = some d:=by
    have h9:=uV bC jT W M p x hy j d hj
    rw [dL] at h9
    exact h9
   obtain ⟨hl,hv⟩:=List.getElem?_eq_some_iff.1 hfm
   rw [show (k+p)*2+j=k*2+(p*2+j) by omega]
   rw [World.cell?_setCells_in g _ _ _ (fun j hj=>by obtain ⟨u,hu⟩:=Km j (by rw [hfl] at hj;exact hj);rw [hu];rfl) _ hl]
   exact congrArg some hv
 ·rw [dL] at hj
  by_cases hin:j<k*2∨k*2+M.length*2≤j
  ·rw [World.cell?_setCells_out _ _ _ _ _ (fun _ _=>by show j<k*2∨k*2+(M.flatMap fS).length≤j;rw [hfl];exact hin)]
   exact hF.there j (by rw [dL];exact hj)
  ·obtain ⟨p,rfl⟩:∃ p,j=k*2+p:=⟨j-k*2,by omega⟩
   exact ⟨_,World.cell?_setCells_in g _ _ _ (fun j hj=>by obtain ⟨u,hu⟩:=Km j (by rw [hfl] at hj;exact hj);rw [hu];rfl) p (by rw [hfl];omega)⟩
 ·exact below_setCells (bK _) _ _ _ hF.below
theorem xX {Ls:List (List bL)}{k:Nat}{M:List bL}(h:Ls[k]? = some M):(Ls.take (k+1)).flatten=(Ls.take k).flatten++M:=by
 rw [List.take_add_one,h,Option.toList_some,List.flatten_append];simp
theorem Wn {Ls:List (List bL)}(k:Nat):∃ r,Ls.flatten=(Ls.take k).flatten++r:=⟨(Ls.drop k).flatten,by rw [←List.flatten_append,List.take_append_drop]⟩
theorem Ov {Ls:List (List bL)}{k:Nat}{M:List bL}(h:Ls[k]? = some M):(Ls.take k).flatten.length+M.length≤Ls.flatten.length∧∀ i x,M[i]? = some x→Ls.flatten[(Ls.take k).flatten.length+i]? = some x:=by
 obtain ⟨r,hr⟩:=Wn (Ls:=Ls) (k+1)
 rw [xX h] at hr
 refine ⟨by rw [hr,List.length_append,List.length_append];omega,fun i x hx=>?_⟩
 have hi:=jE hx
 rw [hr,List.getElem?_append_left (by rw [List.length_append];omega),List.getElem?_append_right (by omega),Nat.add_sub_cancel_left]
 exact hx
theorem Cb {Ls:List (List bL)}{a:Option Addr}{cap:Nat}{W:World}(hT:Ls.flatten.length≤1048576)(h:aH (Sl bg) W W.heap.size Ls a cap) :
 Calls Tryz.prog 181 #[.slice a Ls.length cap] W (jW bg Ls.flatten W):=by
 have H:=aj h
 have hn:Ls.length≤9223372036854775807:=by have h1:=h.1;have h2:=h.2.1;unfold maxLen at h2;omega
 clear h
 obtain ⟨T,hTT⟩:∃ T,Ls.flatten.length=T:=⟨_,rfl⟩
 have HT:=aj hTT
 rw [hTT] at hT
 clear hTT
 have hmk:=BJ T hT
 obtain ⟨w0,hw0⟩:∃ w,w=W.alloc (.cells (wz T) 61):=⟨_,rfl⟩
 have JQ:=aj (show sJ bg W w0 Ls.flatten W.heap.size J3 0 from by rw [hw0];exact sJ.new (by rw [tV,HT.out]))
 go_enter Tryz.func181,Tryz.ntmps181
 go_wp2
 go_loopw [12,3] (fun i v wr=>∃ k:Nat,k≤Ls.length∧i=.int .i64 k∧v=.int .i64 (((Ls.take k).flatten.length:Nat):Int)∧wr=W) (fun i _ _=>Ls.length-(intOf i).toNat)
 case atStart=>exact ⟨0,dX _,rfl,rfl,rfl⟩
 case round=>
  obtain ⟨k,hk,rfl,rfl,rfl⟩:=hrel
  by_cases hlt:k<Ls.length
  ·obtain ⟨M,hM⟩:=aL hlt
   have hfa:=Ov hM
   have hft:=xX hM
   obtain ⟨g,o,us,rfl,hg,hu,hr⟩:=H.out.at_ hM
   obtain ⟨ba,bc,rfl,Xb⟩:=hr
   have e0:wr.cell? ⟨g,o+k,none⟩=some (.slice ba M.length bc):=by simpa [show (Sl bg).size=1 from rfl] using hu 0 _ rfl
   have hi0:(0:Int)≤(k:Int):=eu _
   have hi1:(k:Int)<(Ls.length:Int):=by omega
   have hlen:(Ls.take (k+1)).flatten.length=(Ls.take k).flatten.length+M.length:=by rw [hft,List.length_append]
   have hle:=hfa.1
   rw [HT.out] at hle
   obtain ⟨t0,ht0⟩:∃ t,(Ls.take k).flatten.length=t:=⟨_,rfl⟩
   rw [ht0] at hlen hle ⊢
   have HL:=aj hlen
   have hwr:IntKind.i64.wrap ((t0:Int)+(M.length:Int))=((t0+M.length:Nat):Int):=by rw [←Int.natCast_add];exact gJ _ (by omega)
   clear hfa hft Xb hu hM hlen ht0
   go_wp2
   go_roundw
   case rel=>exact ⟨k+1,by omega,by go_num,by rw [HL.out,Int.natCast_add],trivial⟩
   case measure=>simp [intOf];omega
  ·have hdl:decide ((k:Int)<(Ls.length:Int))=false:=dU (by omega)
   obtain rfl:k=Ls.length:=by omega
   rw [List.take_length,HT.out]
   go_wp2
   rw [←hw0]
   have HB0:=aj (show Below wr.heap.size wr w0 from by rw [hw0];exact (aU _ _).alloc (bK _) _)
   clear hw0 hmk hdl hlt hk
   go_loopw [25,7] (fun i v wq=>∃ k:Nat,k≤Ls.length∧i=.int .i64 k∧v=.int .i64 (((Ls.take k).flatten.length:Nat):Int)∧Hid (sJ bg wr wq Ls.flatten wr.heap.size J3 (Ls.take k).flatten.length)) (fun i _ _=>Ls.length-(intOf i).toNat)
   case atStart=>exact ⟨0,dX _,rfl,rfl,JQ⟩
   case round=>
    obtain ⟨k,hk,rfl,rfl,HF⟩:=hrel
    rename World=>wq
    by_cases hlt:k<Ls.length
    ·obtain ⟨M,hM⟩:=aL hlt
     have hfa:=Ov hM
     have hft:=xX hM
     have hB:=HF.out.below
     obtain ⟨g,o,us,rfl,hg,hu,hr⟩:=H.out.at_ hM
     obtain ⟨ba,bc,rfl,Xb⟩:=hr
     have e0:wq.cell? ⟨g,o+k,none⟩=some (.slice ba M.length bc):=(hB.cell (p:=⟨g,o+k,none⟩) hg).trans (by simpa [show (Sl bg).size=1 from rfl] using hu 0 _ rfl)
     have hi0:(0:Int)≤(k:Int):=eu _
     have hi1:(k:Int)<(Ls.length:Int):=by omega
     have hlen:(Ls.take (k+1)).flatten.length=(Ls.take k).flatten.length+M.length:=by rw [hft,List.length_append]
     have hle:=hfa.1
     rw [HT.out] at hle
     obtain ⟨t0,ht0⟩:∃ t,(Ls.take k).flatten.length=t:=⟨_,rfl⟩
     obtain ⟨wn,hrun,hF2⟩:=WA (ty:=3) (dp:=if T=t0 then some ⟨wr.heap.size,0,none⟩ else some ⟨wr.heap.size,t0*2,none⟩) (by have:=HF.out;rw [ht0] at this;exact this) (by rw [←ht0];exact hfa.1) (by rw [←ht0];exact hfa.2) (fun h=>by rw [HT.out] at h;rw [if_neg (by omega)]) (abI bC Xb hB)
     rw [HT.out] at hrun
     have Xg:=aj hF2
     rw [ht0] at hlen ⊢
     have HL:=aj hlen
     have hwr:IntKind.i64.wrap ((t0:Int)+(M.length:Int))=((t0+M.length:Nat):Int):=by rw [←Int.natCast_add];exact gJ _ (by omega)
     have ht0':(0:Int)≤(t0:Int):=eu _
     have ht1:(t0:Int)≤(T:Int):=by omega
     clear hfa hft Xb hu hM hlen ht0 hB hF2
     by_cases hTt:T=t0
     ·rw [if_pos hTt] at hrun
      subst hTt
      simp only [Nat.sub_self] at hrun
      go_wp2
      go_roundw
      case rel=>exact ⟨k+1,by omega,by go_num,by rw [HL.out,Int.natCast_add],by rw [HL.out];exact Xg⟩
      case measure=>simp [intOf];omega
     ·rw [if_neg hTt] at hrun
      go_wp2
      go_roundw
      case rel=>exact ⟨k+1,by omega,by go_num,by rw [HL.out,Int.natCast_add],by rw [HL.out];exact Xg⟩
      case measure=>simp [intOf];omega
    ·have hdl:decide ((k:Int)<(Ls.length:Int))=false:=dU (by omega)
     obtain rfl:k=Ls.length:=by omega
     have hF3:=HF.out
     rw [List.take_length] at hF3
     have hnw:=hF3.news (by rw [HT.out];unfold maxLen;omega)
     rw [HT.out] at hnw
     have JD:=aj hnw
     clear hF3 hnw
     go_wp2
     go_ret
     exact JD.out
end
section
open Go.RowKit bN bP bJ bM
theorem Zm {w:World}{g:Nat}{M:List bL}{a:Option Addr}{c:Nat}(h:aN w g 122 #[.slice a M.length c])(hM:aH bg w w.heap.size M a c):aH (Sl bg) w w.heap.size [M] (some ⟨g,0,none⟩) 1:=by
 refine ⟨bK _,by unfold maxLen;omega,fun _=>⟨g,0,rfl,h.lt,fun i x hx=>?_⟩⟩
 cases i with
 | zero=>
  simp at hx
  subst hx
  refine ⟨[.slice a M.length c],fun j d hj=>?_,a,c,rfl,hM⟩
  simpa using h.at_ j (by simpa using hj)
 | succ i=>simp at hx
theorem lJ {L:List aO}(h:qJ L):L.length≤4096∧∀ x∈L,x.2.length≤1048576:=⟨by have:=h.1.2;omega,fun x hx=>by have:=(h.2 x hx).2.1;omega⟩
theorem KU {W:World}{B:Nat}{L:List aO}{g o cap:Nat}(h:aH aJ W B L (some ⟨g,o,none⟩) cap):∀ q,q≤L.length→∃ cs:List Value,cs.length=q*2∧aQ W g o cs∧(∀ u∈cs,u.oneCell'=true) ∧
 ∀ i x,i<q→L[i]? = some x→∃ a c,cs[i*2]? = some (.int .i64 x.1)∧cs[i*2+1]? = some (.slice a x.2.length c)∧aH bg W B x.2 a c:=by
 intro q
 induction q with
 | zero=>exact fun _=>⟨[],rfl,aQ.nil,fun u hu=>by simp at hu,fun i x hi=>absurd hi (gT _)⟩
 | succ q ih=>
  intro hq
  obtain ⟨cs,hl,hc,h1,he⟩:=ih (by omega)
  obtain ⟨x,hx⟩:=aL (show q<L.length by omega)
  obtain ⟨g',o',us,e,_,hu,hr⟩:=h.at_ hx
  cases e
  obtain ⟨st,M⟩:=x
  obtain ⟨a,c,rfl,hM⟩:=kJ hr
  rw [eB] at hu
  refine ⟨cs++[.int .i64 st,.slice a M.length c],by simp [hl];omega,aQ.app.2 ⟨hc,by rw [hl];exact hu⟩,fun u hu=>?_,fun i y hi hy=>?_⟩
  ·rcases List.mem_append.1 hu with h | h
   ·exact h1 u h
   ·simp at h;rcases h with rfl | rfl <;> rfl
  ·by_cases e:i=q
   ·subst e
    rw [hx] at hy
    cases hy
    refine ⟨a,c,?_,?_,hM⟩
    ·rw [List.getElem?_append_right (by omega),hl,Nat.sub_self];rfl
    ·rw [List.getElem?_append_right (by omega),hl,show i*2+1-i*2=1 by omega];rfl
   ·obtain ⟨a',c',h2,h3,h4⟩:=he i y (by omega) hy
    exact ⟨a',c',by rw [List.getElem?_append_left (by omega)];exact h2,by rw [List.getElem?_append_left (by omega)];exact h3,h4⟩
def CopR (L:List aO)(W:World)(e:Ending)(w':World):Prop:=∃ g c,e=.returned (.slice (some ⟨g,0,none⟩) L.length c)∧L.length≤c∧c≤maxLen∧zq W w' L g 0 J3
theorem Rb {L:List aO}{W:World}{e:Ending}{w':World}(h:CopR L W e w'):∃ g c,e=.returned (.slice (some ⟨g,0,none⟩) L.length c)∧L.length≤c∧c≤maxLen∧zq W w' L g 0 J3:=h
theorem Rk {W:World}{L:List aO}{a:Option Addr}{cap:Nat}(hn:L.length≤4096)(h0:0<L.length)(h:aH aJ W W.heap.size L a cap) :
 ∃ g c w',(Builtin.append_ #[40,40] 40 #[.slice (some ⟨W.heap.size,0,none⟩) 0 0,.slice a L.length cap]).run Tryz.prog (W.alloc (.cells #[] 124))=.ok (.slice (some ⟨g,0,none⟩) L.length c) w'∧L.length≤c∧c≤maxLen∧zq W w' L g 0 J3:=by
 obtain ⟨i,hi,hz,hs,hby⟩:=Hq
 have hbel:Below W.heap.size W (W.alloc (.cells #[] 124)):=(aU _ _).alloc (bK _) _
 obtain ⟨g,o,rfl,hg,_⟩:=h.2.2 h0
 obtain ⟨cs,hl,hc,h1,he⟩:=KU h L.length (bK _)
 obtain ⟨v',w',hrun,hown,hgr,_,hat⟩:=run_append_own_at (P:=Tryz.prog) (W.alloc (.cells #[] 124)) W.heap.size 40 40 124 i _ 2 32 Tryz.underlying40 hi hz hs hby rfl (by decide) _ 0 [] (App.made aJ W 124).own ⟨g,o,none⟩ L.length cap cs hl
  (fun j u hj=>by
   have hadd:(⟨g,o,none⟩:Addr).add j=⟨g,o+j,none⟩:=by unfold Addr.add;split <;> simp_all
   rw [hadd]
   exact (hbel.cell (p:=⟨g,o+j,none⟩) hg).trans (hc j u hj)) h1 (by unfold maxLen;omega) (by omega) (by simp)
 rw [Nat.zero_add,List.nil_append] at hown
 have hb2:Below W.heap.size W w':=hbel.trans (by
  refine ⟨hgr.os,hgr.tape,hgr.output,hgr.size,fun k hk=>hgr.block k (by simp;omega) (fun e=>by cases e;exact jK _ hk)⟩)
 rcases hown.2 with ⟨hn0,hL0⟩ | ⟨g',cap',cur,rfl,hlo,hgg,hnc,hm,hcc,htk⟩
 ·omega
 ·have hgl:g'<w'.heap.size:=(Array.getElem?_eq_some_iff.1 hgg).1
  have hcell:∀ j u,cs[j]? = some u→w'.cell? ⟨g',j,none⟩=some u:=fun j u hj=>by
   rw [←htk,List.getElem?_take] at hj
   split at hj
   ·exact (cell_of_row w' g' j cur _ _ hgg).trans (by simpa using hj)
   ·cases hj
  refine ⟨g',cap',w',hrun,hnc,hm,⟨fun i x hx=>?_,fun j=>by simp [World.frozen?,hgg],fun _ _ h=>h.elim,fun _ _ _ _ h=>h.elim,hlo,hgl,hb2⟩⟩
  obtain ⟨a,c,h2,h3,h4⟩:=he i x (jE hx) hx
  exact ⟨a,c,hcell _ _ h2,hcell _ _ h3,fun h=>absurd h (gT _),fun _=>h4.below bC hb2⟩
theorem Jm {L:List aO}{a:Option Addr}{cap:Nat}{W:World}(hn:L.length≤4096)(h0:0<L.length)(h:aH aJ W W.heap.size L a cap) :
 Calls Tryz.prog 209 #[.slice a L.length cap] W (CopR L W):=by
 obtain ⟨g,c,w',hrun,h1,h2,h3⟩:=Rk hn h0 h
 obtain ⟨g0,o0,rfl,_⟩:=h.2.2 h0
 have Ah:=aj hrun
 have HC:=aj h3
 clear h hrun h3
 have hnil:∀ W,(binOp .eql 40 (.slice (some ⟨g0,o0,none⟩) L.length cap) (.slice none 0 0)).run Tryz.prog W=.ok (.bool false) W:=fun W=>Lib.run_eql_slice_nil W _ _ _ _ _ _ _ Tryz.underlying40
 go_enter Tryz.func209,Tryz.ntmps209
 go_wp2_with (at_builtin;refine dR rfl (.tmp 5) (.tmp 6) 40 rfl rfl rfl Ah.out ?_)
 go_ret
 exact ⟨g,c,rfl,h1,h2,HC.out⟩
theorem yN {L:List aO}{a:Option Addr}{cap:Nat}{W:World}(hn:L.length≤4096)(h0:0<L.length)(hM:∀ x∈L,x.2.length≤1048576)(h:aH aJ W W.heap.size L a cap) :
 Calls Tryz.prog 138 #[.slice a L.length cap] W (jW aJ L W):=by
 have hcl:=Jm hn h0 h
 have HS:=aj hM
 clear h hM
 go_enter Tryz.func138,Tryz.ntmps138
 go_wp2_with fail
 refine hcl.mono ?_
 intro e w0 h
 obtain ⟨g,c,rfl,hc1,hc2,hC⟩:=Rb h
 have HC0:=aj hC
 clear h hC hcl
 go_wp2
 go_loopw [10] (fun i wr=>∃ k:Nat,k≤L.length∧i=.int .i64 k∧∃ Sf,Hid (zq W wr L g k Sf)) (fun i _=>L.length-(intOf i).toNat)
 case atStart=>exact ⟨0,dX _,rfl,_,HC0⟩
 case round=>
  obtain ⟨k,hk,rfl,Sf,HC⟩:=hrel
  by_cases hlt:k<L.length
  ·obtain ⟨x,hx⟩:=aL hlt
   have hxl:=HS.out x (List.mem_of_getElem? hx)
   have hlt':=HC.out.lt
   obtain ⟨ba,bc,e0,e1,_,hr⟩:=HC.out.el k x hx
   have hr:=(hr (bK _)).more bC HC.out.below.size
   obtain ⟨st,M⟩:=x
   have hi0:(0:Int)≤(k:Int):=eu _
   have hi1:(k:Int)<(L.length:Int):=by omega
   obtain ⟨w1,hw1⟩:∃ w,w=wr.alloc (.cells #[.int .i64 st,.slice ba M.length bc] 124):=⟨_,rfl⟩
   have hb1:Below wr.heap.size wr w1:=by rw [hw1];exact (aU _ _).alloc (bK _) _
   have X1:aN w1 wr.heap.size 124 #[.int .i64 st,.slice ba M.length bc]:=by rw [hw1];exact aN.new _ _ _
   have hs1:w1.heap.size=wr.heap.size+1:=by rw [hw1];simp
   obtain ⟨w2,hw2⟩:∃ w,w=w1.alloc (.cells #[.slice ba M.length bc] 122):=⟨_,rfl⟩
   have hb2:Below w1.heap.size w1 w2:=by rw [hw2];exact (aU _ _).alloc (bK _) _
   have X2:aN w2 w1.heap.size 122 #[.slice ba M.length bc]:=by rw [hw2];exact aN.new _ _ _
   have xk:Below wr.heap.size wr w2:=hb1.trans (hb2.mono (by omega))
   have hbk:=Cb (Ls:=[M]) (by simpa using hxl) (Zm X2 (oG bC hr xk))
   rw [show ([M]:List (List bL)).flatten=M by simp,hs1] at hbk
   have HBK:=aj hbk
   have gU:=aj xk
   have HX:=aj hx
   have p0:=X1.at_ 0 rfl
   have p1:=X1.at_ 1 rfl
   rw [hw1] at p0 p1
   clear hbk hb1 hb2 xk X1 X2 hr hx hs1
   go_wp2_with fail
   rw [←hw1,←hw2]
   clear p0 p1 hw1 hw2
   refine HBK.out.mono ?_
   intro e w3 h
   obtain ⟨a',c',rfl,ho,hb⟩:=bI h
   have hz2:=gU.out.size
   have hb3:Below wr.heap.size wr w3:=gU.out.trans (hb.mono hz2)
   have hput:=HC.out.put HX.out hb3 (ho.more fun q hq=>⟨eH hz2 hq.1,hq.2⟩)
   have HP:=aj hput
   have d1:w3.cell? ⟨g,k*2+1,none⟩=some (.slice ba M.length bc):=(hb3.cell (p:=⟨g,k*2+1,none⟩) hlt').trans e1
   have f1:w3.frozen? ⟨g,k*2+1,none⟩=false:=(hb3.frozen (p:=⟨g,k*2+1,none⟩) hlt').trans (HC.out.soft _)
   clear h ho hb hb3 hput e0 e1
   go_wp2
   go_roundw
   case rel=>exact ⟨k+1,by omega,by go_num,_,HP⟩
   case measure=>simp [intOf];omega
  ·have hdl:decide ((k:Int)<(L.length:Int))=false:=dU (by omega)
   obtain rfl:k=L.length:=by omega
   have HD:=aj HC.out.done
   go_wp2
   go_ret
   exact ⟨_,_,rfl,HD.out.slice hc1 hc2,HC.out.below⟩
end
end Go.Proofs.YtlhfiapfncikdaaGreatDoor.aP
