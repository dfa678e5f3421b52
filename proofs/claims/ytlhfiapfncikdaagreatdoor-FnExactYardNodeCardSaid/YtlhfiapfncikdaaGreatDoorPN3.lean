import Derived.Test.YtlhfiapfncikdaaGreatDoorPN1
import Derived.Test.YtlhfiapfncikdaaGreatDoorPN2
set_option linter.unusedVariables false
set_option linter.unusedSimpArgs false
set_option maxRecDepth 100000
set_option maxHeartbeats 3200000
namespace Go.Proofs.YtlhfiapfncikdaaGreatDoor
namespace aQ
section
open Go.RowKit bN bO
theorem G5 {x0:Int}{x1:Int}{x2:Int}{x3:ByteArray}{x4:Int}{x5:Int}{x6:Int}{x7:Int}{x8:Int}{x9:Int}{x10:Int}{aS:Int}{aV:Int}{L0:List (Int)}:aI.sz ((x0,x1),x2,x3,x4,x5,x6,(x7,x8),x9,x10,aS,aV,L0)=x3.size+((Sl I)).sz L0:=by
 simp only [aI,Pr,I,Bo,St,atom,av];omega
theorem ZE {x0:Int}{x1:Int}{x2:Int}{x3:ByteArray}{x4:Int}{x5:Int}{x6:Int}{x7:Int}{x8:Int}{x9:Int}{x10:Int}{aS:Int}{aV:Int}{L0:List (Int)}{a0:Option Addr}{c0:Nat}{W:World}{l:Int}(h0:0≤l)(h1:l≤1048576)(dP:aJ I W W.heap.size L0 a0 c0)(fH:x3.size≤maxLen):Calls Tryz.prog 64 #[.agg #[.int .i64 x0,.int .i64 x1,.int .i64 x2,.string x3,.int .i64 x4,.int .i64 x5,.int .i64 x6,.int .i64 x7,.int .i64 x8,.int .i64 x9,.int .i64 x10,.int .i64 aS,.int .i64 aV,.slice a0 L0.length c0],.int .i64 l] W (JN l (aI.sz ((x0,x1),x2,x3,x4,x5,x6,(x7,x8),x9,x10,aS,aV,L0)) W):=by
 unfold maxLen at fH
 have jJ:=ak dP
 clear dP
 have HD:=ak (G5 (x0:=x0) (x1:=x1) (x2:=x2) (x3:=x3) (x4:=x4) (x5:=x5) (x6:=x6) (x7:=x7) (x8:=x8) (x9:=x9) (x10:=x10) (aS:=aS) (aV:=aV) (L0:=L0))
 have HB0:=ak (show Below W.heap.size W (W.alloc (.cells #[.int .i64 x0,.int .i64 x1,.int .i64 x2,.string x3,.int .i64 x4,.int .i64 x5,.int .i64 x6,.int .i64 x7,.int .i64 x8,.int .i64 x9,.int .i64 x10,.int .i64 aS,.int .i64 aV,.slice a0 L0.length c0] 111)) from (aW _ _).alloc (bK _) _)
 have hP:=aO.new W 111 #[.int .i64 x0,.int .i64 x1,.int .i64 x2,.string x3,.int .i64 x4,.int .i64 x5,.int .i64 x6,.int .i64 x7,.int .i64 x8,.int .i64 x9,.int .i64 x10,.int .i64 aS,.int .i64 aV,.slice a0 L0.length c0]
 have gY:=ak hP
 have hz0:W.heap.size≤(W.alloc (.cells #[.int .i64 x0,.int .i64 x1,.int .i64 x2,.string x3,.int .i64 x4,.int .i64 x5,.int .i64 x6,.int .i64 x7,.int .i64 x8,.int .i64 x9,.int .i64 x10,.int .i64 aS,.int .i64 aV,.slice a0 L0.length c0] 111)).heap.size:=HB0.out.size
 clear hP
 by_cases hf:(x3.size:Int)≤l
 rotate_left
 ·have HR:=ak (dI (l:=l) (s:=aI.sz ((x0,x1),x2,x3,x4,x5,x6,(x7,x8),x9,x10,aS,aV,L0)) (by rw [HD.out];omega))
  have hd:decide (l-(x3.size:Int)<0)=true:=eD (by omega)
  go_enter Tryz.func64,Tryz.ntmps64
  go_wp2
  go_ret
  exact ⟨by rw [HR.out];rfl,HB0.out⟩
 have hd:decide (l-(x3.size:Int)<0)=false:=dS (by omega)
 obtain ⟨s0,hs0⟩:∃ s,s=(((Sl I)).sz L0):=⟨_,rfl⟩
 have zR:=ak hs0
 rw [←hs0] at HD
 clear hs0
 go_enter Tryz.func64,Tryz.ntmps64
 go_wp2_with fail
 refine (QG (l:=l-(x3.size:Int)) (by omega) (by omega) ((jJ.out.below cK HB0.out).more cK hz0)).mono ?_
 intro e w1 h
 obtain ⟨rfl,hb⟩:=gD h
 rw [←zR.out]
 have cZ:=ak (gY.out.call hb)
 have HB1:=ak (HB0.out.trans (hb.mono hz0))
 clear h hb
 by_cases hf0:(s0:Int)≤l-(x3.size:Int)
 rotate_left
 ·rw [dI hf0]
  have HR:=ak (dI (l:=l) (s:=aI.sz ((x0,x1),x2,x3,x4,x5,x6,(x7,x8),x9,x10,aS,aV,L0)) (by rw [HD.out];omega))
  go_wp2
  go_ret
  exact ⟨by first | (rw [HR.out];done) | (rw [HR.out];rfl),HB1.out⟩
 rw [dL hf0]
 have Dw:(0:Int)≤l-(x3.size:Int)-(s0:Nat):=by omega
 have HR:=ak (dL (l:=l) (s:=aI.sz ((x0,x1),x2,x3,x4,x5,x6,(x7,x8),x9,x10,aS,aV,L0)) (by rw [HD.out];omega))
 go_wp2
 go_ret
 exact ⟨by rw [HR.out,HD.out];first | rfl | (simp;done) | (simp;omega),HB1.out⟩
theorem acf:(aI).size=14:=rfl
theorem QC (L:List (aF)):(Sl aI).sz L=L.length+bD (aI).sz L:=rfl
theorem VD {L:List (aF)}{a:Option Addr}{cap:Nat}{W:World}{l:Int}(h0:0≤l)(h1:l≤1048576)(h:aJ aI W W.heap.size L a cap):Calls Tryz.prog 26 #[.slice a L.length cap,.int .i64 l] W (JN l ((Sl aI).sz L) W):=by
 have hn:L.length≤9223372036854775807:=by have h1:=h.1;have h2:=h.2.1;unfold maxLen at h2;omega
 have H:=ak h
 have HD:=ak (QC L)
 clear h
 by_cases hlen:(L.length:Int)≤l
 ·go_enter Tryz.func26,Tryz.ntmps26
  go_wp2
  go_loopw [5,1] (fun i q wr=>∃ k:Nat,k≤L.length∧i=.int .i64 k∧(L.length:Int)+(bD (aI).sz (L.take k):Nat)≤l∧q=.int .i64 (l-L.length-(bD (aI).sz (L.take k):Nat))∧Below W.heap.size W wr) (fun i _ _=>L.length-(intOf i).toNat)
  case atStart=>exact ⟨0,dV _,rfl,by simpa [bD] using hlen,by simp [bD],aW _ _⟩
  case round=>
   obtain ⟨k,hk,rfl,hfit,rfl,hB⟩:=hrel
   have HB:=ak hB
   have hsz:=hB.size
   have hle:=dh (aI).sz L k
   by_cases hlt:k<L.length
   ·obtain ⟨⟨⟨x0,x1⟩,x2,x3,x4,x5,x6,⟨x7,x8⟩,x9,x10,aS,aV,L0⟩,hx⟩:=aM hlt
    have HS:=ak (fB (aI).sz hx)
    have hle2:=dh (aI).sz L (k+1)
    obtain ⟨g,o,us,rfl,hg,hu,hr⟩:=(H.out.below aA hB).at_ hx
    obtain ⟨a0,c0,rfl,dY,fH⟩:=fA hr
    obtain ⟨e0,e1,e2,e3,e4,e5,e6,e7,e8,e9,e10,e11,e12,e13⟩:=kY (a:=o+k*14) hu rfl
    have fI:=ak (dY.more cK hsz)
    obtain ⟨q,hq⟩:∃ q,q=bD (aI).sz (L.take k):=⟨_,rfl⟩
    obtain ⟨p,hp⟩:∃ p,p=(aI).sz ((x0,x1),x2,x3,x4,x5,x6,(x7,x8),x9,x10,aS,aV,L0):=⟨_,rfl⟩
    rw [←hq] at hfit hle HS
    rw [←hp] at HS
    have HQ:=ak hq
    have HP:=ak hp
    have hi0:(0:Int)≤(k:Int):=eu _
    have hi1:(k:Int)<(L.length:Int):=by omega
    have hgl:g<wr.heap.size:=bV hg hsz
    have hle3:q+p≤bD (aI).sz L:=by rw [←HS.out];exact hle2
    rw [←hq]
    clear hB hx hu dY hq hp hle2
    go_wp2_with fail
    refine (ZE (by omega) (by omega) fI.out fH).mono ?_
    intro e w1 h
    obtain ⟨rfl,hb⟩:=gD h
    rw [←HP.out]
    have HB2:=ak (HB.out.trans (hb.mono hsz))
    clear h hb
    by_cases hf:(p:Int)≤l-L.length-(q:Nat)
    ·rw [dL hf]
     have hpos:(0:Int)≤l-L.length-(q:Nat)-(p:Nat):=by omega
     go_wp2
     go_roundw
     case rel=>exact ⟨k+1,by omega,by go_num,by rw [HS.out];omega,by rw [HS.out];congr 1;omega,HB2.out⟩
     case measure=>simp [intOf];omega
    ·rw [dI hf]
     have HR:=ak (dI (l:=l) (s:=(Sl aI).sz L) (by rw [HD.out];omega))
     go_wp2
     go_ret
     exact ⟨by first | (rw [HR.out];done) | (rw [HR.out];rfl),HB2.out⟩
   ·obtain rfl:k=L.length:=by omega
    have HR:=ak (dL (l:=l) (s:=(Sl aI).sz L) (by rw [HD.out];rw [List.take_length] at hfit;omega))
    have HT:=ak (show L.take L.length=L from List.take_length)
    clear hB
    go_wp2
    go_ret
    exact ⟨by rw [HR.out,HD.out,←HT.out];first | rfl | (simp;done) | (simp;omega),HB.out⟩
 ·have HR:=ak (dI (l:=l) (s:=(Sl aI).sz L) (by rw [HD.out];omega))
  go_enter Tryz.func26,Tryz.ntmps26
  go_wp2
  go_ret
  exact ⟨by first | (rw [HR.out];done) | (rw [HR.out];rfl),aW _ _⟩
abbrev dF:Type:=(Bv)×(List (aP))×(List (aF))×(List (bI))×(Int)
def bW:Rp dF:=(Pr cu (Pr (Sl aL) (Pr (Sl aI) (Pr (Sl bC) I))))
theorem bS:Ok bW:=(gP bX (gP (aZ aK) (gP (aZ aA) (gP (aZ aU) cK))))
theorem pR {W:World}{B:Nat}{L0:List (List (ay))}{L1:List (bA)}{L2:List (aX)}{x3:Int}{L3:List (aP)}{L4:List (aF)}{L5:List (bI)}{x7:Int}{cs:List Value}(h:bW.rd W B ((L0,L1,L2,x3),L3,L4,L5,x7) cs):∃ a0 c0 a1 c1 a2 c2 a3 c3 a4 c4 a5 c5,cs = [.slice a0 L0.length c0,.slice a1 L1.length c1,.slice a2 L2.length c2,.int .i64 x3,.slice a3 L3.length c3,.slice a4 L4.length c4,.slice a5 L5.length c5,.int .i64 x7]∧aJ (Sl av) W B L0 a0 c0∧aJ aT W B L1 a1 c1∧aJ aN W B L2 a2 c2∧aJ aL W B L3 a3 c3∧aJ aI W B L4 a4 c4∧aJ bC W B L5 a5 c5:=by
 obtain ⟨u1,v1,rfl,h1,g1⟩:=h
 obtain ⟨u2,v2,rfl,h2,g2⟩:=h1
 obtain ⟨a0,c0,rfl,dY⟩:=h2
 obtain ⟨u3,v3,rfl,h3,g3⟩:=g2
 obtain ⟨a1,c1,rfl,l7⟩:=h3
 obtain ⟨u4,v4,rfl,h4,g4⟩:=g3
 obtain ⟨a2,c2,rfl,lZ⟩:=h4
 obtain rfl:v4 = [_]:=g4
 obtain ⟨u5,v5,rfl,h5,g5⟩:=g1
 obtain ⟨a3,c3,rfl,oD⟩:=h5
 obtain ⟨u6,v6,rfl,h6,g6⟩:=g5
 obtain ⟨a4,c4,rfl,oC⟩:=h6
 obtain ⟨u7,v7,rfl,h7,g7⟩:=g6
 obtain ⟨a5,c5,rfl,oz⟩:=h7
 obtain rfl:v7 = [_]:=g7
 exact ⟨a0,c0,a1,c1,a2,c2,a3,c3,a4,c4,a5,c5,rfl,dY,l7,lZ,oD,oC,oz⟩
theorem yh {W:World}{S:Nat→Prop}{L0:List (List (ay))}{L1:List (bA)}{L2:List (aX)}{x3:Int}{L3:List (aP)}{L4:List (aF)}{L5:List (bI)}{x7:Int}{a0:Option Addr}{c0:Nat}{a1:Option Addr}{c1:Nat}{a2:Option Addr}{c2:Nat}{a3:Option Addr}{c3:Nat}{a4:Option Addr}{c4:Nat}{a5:Option Addr}{c5:Nat}{T0:Nat→Prop}{T1:Nat→Prop}{T2:Nat→Prop}{T3:Nat→Prop}{T4:Nat→Prop}{T5:Nat→Prop}(hs0:∀ k,T0 k→S k)(hs1:∀ k,T1 k→S k)(hs2:∀ k,T2 k→S k)(hs3:∀ k,T3 k→S k)(hs4:∀ k,T4 k→S k)(hs5:∀ k,T5 k→S k)(jO:∀ k,T0 k→¬T1 k)(jN:∀ k,T0 k→¬T2 k)(mM:∀ k,T0 k→¬T3 k)(mK:∀ k,T0 k→¬T4 k)(mJ:∀ k,T0 k→¬T5 k)(jM:∀ k,T1 k→¬T2 k)(mI:∀ k,T1 k→¬T3 k)(mH:∀ k,T1 k→¬T4 k)(mG:∀ k,T1 k→¬T5 k)(mF:∀ k,T2 k→¬T3 k)(mE:∀ k,T2 k→¬T4 k)(mD:∀ k,T2 k→¬T5 k)(mq:∀ k,T3 k→¬T4 k)(mo:∀ k,T3 k→¬T5 k)(mh:∀ k,T4 k→¬T5 k)(dP:bH (Sl av) W T0 L0 a0 c0)(gN:bH aT W T1 L1 a1 c1)(gM:bH aN W T2 L2 a2 c2)(ko:bH aL W T3 L3 a3 c3)(kg:bH aI W T4 L4 a4 c4)(j6:bH bC W T5 L5 a5 c5):bW.ow W S ((L0,L1,L2,x3),L3,L4,L5,x7) [.slice a0 L0.length c0,.slice a1 L1.length c1,.slice a2 L2.length c2,.int .i64 x3,.slice a3 L3.length c3,.slice a4 L4.length c4,.slice a5 L5.length c5,.int .i64 x7]:=⟨[.slice a0 L0.length c0,.slice a1 L1.length c1,.slice a2 L2.length c2,.int .i64 x3],[.slice a3 L3.length c3,.slice a4 L4.length c4,.slice a5 L5.length c5,.int .i64 x7],(fun k=>T0 k∨T1 k∨T2 k),(fun k=>T3 k∨T4 k∨T5 k),rfl,(fun k h=>by rcases h with h | h | h <;> first | exact hs0 k h | exact hs1 k h | exact hs2 k h),(fun k h=>by rcases h with h | h | h <;> first | exact hs3 k h | exact hs4 k h | exact hs5 k h),(fun k h h'=>by rcases h with h | h | h <;> rcases h' with h' | h' | h' <;> first | exact mM k h h' | exact mK k h h' | exact mJ k h h' | exact mI k h h' | exact mH k h h' | exact mG k h h' | exact mF k h h' | exact mE k h h' | exact mD k h h'),⟨[.slice a0 L0.length c0],[.slice a1 L1.length c1,.slice a2 L2.length c2,.int .i64 x3],T0,(fun k=>T1 k∨T2 k),rfl,(fun k h=>.inl h),(fun k h=>by rcases h with h | h <;> first | exact .inr (.inl h) | exact .inr (.inr (h))),(fun k h h'=>by rcases h' with h' | h' <;> first | exact jO k h h' | exact jN k h h'),⟨a0,c0,rfl,dP⟩,⟨[.slice a1 L1.length c1],[.slice a2 L2.length c2,.int .i64 x3],T1,T2,rfl,(fun k h=>.inl h),(fun k h=>.inr (h)),jM,⟨a1,c1,rfl,gN⟩,⟨[.slice a2 L2.length c2],[.int .i64 x3],T2,(fun _=>False),rfl,(fun k h=>h),(fun k h=>h.elim),(fun k h h'=>h'.elim),⟨a2,c2,rfl,gM⟩,rfl⟩⟩⟩,⟨[.slice a3 L3.length c3],[.slice a4 L4.length c4,.slice a5 L5.length c5,.int .i64 x7],T3,(fun k=>T4 k∨T5 k),rfl,(fun k h=>.inl h),(fun k h=>by rcases h with h | h <;> first | exact .inr (.inl h) | exact .inr (.inr (h))),(fun k h h'=>by rcases h' with h' | h' <;> first | exact mq k h h' | exact mo k h h'),⟨a3,c3,rfl,ko⟩,⟨[.slice a4 L4.length c4],[.slice a5 L5.length c5,.int .i64 x7],T4,T5,rfl,(fun k h=>.inl h),(fun k h=>.inr (h)),mh,⟨a4,c4,rfl,kg⟩,⟨[.slice a5 L5.length c5],[.int .i64 x7],T5,(fun _=>False),rfl,(fun k h=>h),(fun k h=>h.elim),(fun k h h'=>h'.elim),⟨a5,c5,rfl,j6⟩,rfl⟩⟩⟩⟩
theorem ER {W:World}{S:Nat→Prop}{L0:List (List (ay))}{L1:List (bA)}{L2:List (aX)}{x3:Int}{L3:List (aP)}{L4:List (aF)}{L5:List (bI)}{x7:Int}{cs:List Value}(h:bW.ow W S ((L0,L1,L2,x3),L3,L4,L5,x7) cs):∃ a0 c0 a1 c1 a2 c2 a3 c3 a4 c4 a5 c5,∃ T0 T1 T2 T3 T4 T5:Nat→Prop,cs = [.slice a0 L0.length c0,.slice a1 L1.length c1,.slice a2 L2.length c2,.int .i64 x3,.slice a3 L3.length c3,.slice a4 L4.length c4,.slice a5 L5.length c5,.int .i64 x7]∧(∀ k,T0 k→S k)∧(∀ k,T1 k→S k)∧(∀ k,T2 k→S k)∧(∀ k,T3 k→S k)∧(∀ k,T4 k→S k)∧(∀ k,T5 k→S k)∧(∀ k,T0 k→¬T1 k)∧(∀ k,T0 k→¬T2 k)∧(∀ k,T0 k→¬T3 k)∧(∀ k,T0 k→¬T4 k)∧(∀ k,T0 k→¬T5 k)∧(∀ k,T1 k→¬T2 k)∧(∀ k,T1 k→¬T3 k)∧(∀ k,T1 k→¬T4 k)∧(∀ k,T1 k→¬T5 k)∧(∀ k,T2 k→¬T3 k)∧(∀ k,T2 k→¬T4 k)∧(∀ k,T2 k→¬T5 k)∧(∀ k,T3 k→¬T4 k)∧(∀ k,T3 k→¬T5 k)∧(∀ k,T4 k→¬T5 k)∧bH (Sl av) W T0 L0 a0 c0∧bH aT W T1 L1 a1 c1∧bH aN W T2 L2 a2 c2∧bH aL W T3 L3 a3 c3∧bH aI W T4 L4 a4 c4∧bH bC W T5 L5 a5 c5:=by
 obtain ⟨u1,v1,A1,B1,rfl,sa1,sb1,dd1,h1,g1⟩:=h
 obtain ⟨u2,v2,A2,B2,rfl,JW,Et,FL,h2,g2⟩:=h1
 obtain ⟨a0,c0,rfl,dY⟩:=h2
 obtain ⟨u3,v3,A3,B3,rfl,FQ,Es,dd3,h3,g3⟩:=g2
 obtain ⟨a1,c1,rfl,l7⟩:=h3
 obtain ⟨u4,v4,A4,B4,rfl,Mt,Xz,dd4,h4,g4⟩:=g3
 obtain ⟨a2,c2,rfl,lZ⟩:=h4
 obtain rfl:v4 = [_]:=g4
 obtain ⟨u5,v5,A5,B5,rfl,RU,Sb,dd5,h5,g5⟩:=g1
 obtain ⟨a3,c3,rfl,oD⟩:=h5
 obtain ⟨u6,v6,A6,B6,rfl,Sc,JJ,dd6,h6,g6⟩:=g5
 obtain ⟨a4,c4,rfl,oC⟩:=h6
 obtain ⟨u7,v7,A7,B7,rfl,O7,sb7,dd7,h7,g7⟩:=g6
 obtain ⟨a5,c5,rfl,oz⟩:=h7
 obtain rfl:v7 = [_]:=g7
 exact ⟨a0,c0,a1,c1,a2,c2,a3,c3,a4,c4,a5,c5,A2,A3,A4,A5,A6,A7,rfl,fun k h=>sa1 k (JW k (h)),fun k h=>sa1 k (Et k (FQ k (h))),fun k h=>sa1 k (Et k (Es k (Mt k (h)))),fun k h=>sb1 k (RU k (h)),fun k h=>sb1 k (Sb k (Sc k (h))),fun k h=>sb1 k (Sb k (JJ k (O7 k (h)))),fun k h h'=>FL k (h) (FQ k (h')),fun k h h'=>FL k (h) (Es k (Mt k (h'))),fun k h h'=>dd1 k (JW k (h)) (RU k (h')),fun k h h'=>dd1 k (JW k (h)) (Sb k (Sc k (h'))),fun k h h'=>dd1 k (JW k (h)) (Sb k (JJ k (O7 k (h')))),fun k h h'=>dd3 k (h) (Mt k (h')),fun k h h'=>dd1 k (Et k (FQ k (h))) (RU k (h')),fun k h h'=>dd1 k (Et k (FQ k (h))) (Sb k (Sc k (h'))),fun k h h'=>dd1 k (Et k (FQ k (h))) (Sb k (JJ k (O7 k (h')))),fun k h h'=>dd1 k (Et k (Es k (Mt k (h)))) (RU k (h')),fun k h h'=>dd1 k (Et k (Es k (Mt k (h)))) (Sb k (Sc k (h'))),fun k h h'=>dd1 k (Et k (Es k (Mt k (h)))) (Sb k (JJ k (O7 k (h')))),fun k h h'=>dd5 k (h) (Sc k (h')),fun k h h'=>dd5 k (h) (JJ k (O7 k (h'))),fun k h h'=>dd6 k (h) (O7 k (h')),dY,l7,lZ,oD,oC,oz⟩
abbrev dU:Type:=(dF)×(Int)×(Int)
def cB:Rp dU:=(Pr bW (Pr I I))
theorem aY:Ok cB:=(gP bS (gP cK cK))
theorem uZ {W:World}{B:Nat}{L0:List (List (ay))}{L1:List (bA)}{L2:List (aX)}{x3:Int}{L3:List (aP)}{L4:List (aF)}{L5:List (bI)}{x7:Int}{x8:Int}{x9:Int}{cs:List Value}(h:cB.rd W B (((L0,L1,L2,x3),L3,L4,L5,x7),x8,x9) cs):∃ a0 c0 a1 c1 a2 c2 a3 c3 a4 c4 a5 c5,cs = [.slice a0 L0.length c0,.slice a1 L1.length c1,.slice a2 L2.length c2,.int .i64 x3,.slice a3 L3.length c3,.slice a4 L4.length c4,.slice a5 L5.length c5,.int .i64 x7,.int .i64 x8,.int .i64 x9]∧aJ (Sl av) W B L0 a0 c0∧aJ aT W B L1 a1 c1∧aJ aN W B L2 a2 c2∧aJ aL W B L3 a3 c3∧aJ aI W B L4 a4 c4∧aJ bC W B L5 a5 c5:=by
 obtain ⟨u1,v1,rfl,h1,g1⟩:=h
 obtain ⟨u2,v2,rfl,h2,g2⟩:=h1
 obtain ⟨u3,v3,rfl,h3,g3⟩:=h2
 obtain ⟨a0,c0,rfl,dY⟩:=h3
 obtain ⟨u4,v4,rfl,h4,g4⟩:=g3
 obtain ⟨a1,c1,rfl,l7⟩:=h4
 obtain ⟨u5,v5,rfl,h5,g5⟩:=g4
 obtain ⟨a2,c2,rfl,lZ⟩:=h5
 obtain rfl:v5 = [_]:=g5
 obtain ⟨u6,v6,rfl,h6,g6⟩:=g2
 obtain ⟨a3,c3,rfl,oD⟩:=h6
 obtain ⟨u7,v7,rfl,h7,g7⟩:=g6
 obtain ⟨a4,c4,rfl,oC⟩:=h7
 obtain ⟨u8,v8,rfl,h8,g8⟩:=g7
 obtain ⟨a5,c5,rfl,oz⟩:=h8
 obtain rfl:v8 = [_]:=g8
 obtain ⟨u9,v9,rfl,h9,g9⟩:=g1
 obtain rfl:u9 = [_]:=h9
 obtain rfl:v9 = [_]:=g9
 exact ⟨a0,c0,a1,c1,a2,c2,a3,c3,a4,c4,a5,c5,rfl,dY,l7,lZ,oD,oC,oz⟩
theorem Fv {W:World}{S:Nat→Prop}{L0:List (List (ay))}{L1:List (bA)}{L2:List (aX)}{x3:Int}{L3:List (aP)}{L4:List (aF)}{L5:List (bI)}{x7:Int}{x8:Int}{x9:Int}{a0:Option Addr}{c0:Nat}{a1:Option Addr}{c1:Nat}{a2:Option Addr}{c2:Nat}{a3:Option Addr}{c3:Nat}{a4:Option Addr}{c4:Nat}{a5:Option Addr}{c5:Nat}{T0:Nat→Prop}{T1:Nat→Prop}{T2:Nat→Prop}{T3:Nat→Prop}{T4:Nat→Prop}{T5:Nat→Prop}(hs0:∀ k,T0 k→S k)(hs1:∀ k,T1 k→S k)(hs2:∀ k,T2 k→S k)(hs3:∀ k,T3 k→S k)(hs4:∀ k,T4 k→S k)(hs5:∀ k,T5 k→S k)(jO:∀ k,T0 k→¬T1 k)(jN:∀ k,T0 k→¬T2 k)(mM:∀ k,T0 k→¬T3 k)(mK:∀ k,T0 k→¬T4 k)(mJ:∀ k,T0 k→¬T5 k)(jM:∀ k,T1 k→¬T2 k)(mI:∀ k,T1 k→¬T3 k)(mH:∀ k,T1 k→¬T4 k)(mG:∀ k,T1 k→¬T5 k)(mF:∀ k,T2 k→¬T3 k)(mE:∀ k,T2 k→¬T4 k)(mD:∀ k,T2 k→¬T5 k)(mq:∀ k,T3 k→¬T4 k)(mo:∀ k,T3 k→¬T5 k)(mh:∀ k,T4 k→¬T5 k)(dP:bH (Sl av) W T0 L0 a0 c0)(gN:bH aT W T1 L1 a1 c1)(gM:bH aN W T2 L2 a2 c2)(ko:bH aL W T3 L3 a3 c3)(kg:bH aI W T4 L4 a4 c4)(j6:bH bC W T5 L5 a5 c5):cB.ow W S (((L0,L1,L2,x3),L3,L4,L5,x7),x8,x9) [.slice a0 L0.length c0,.slice a1 L1.length c1,.slice a2 L2.length c2,.int .i64 x3,.slice a3 L3.length c3,.slice a4 L4.length c4,.slice a5 L5.length c5,.int .i64 x7,.int .i64 x8,.int .i64 x9]:=⟨[.slice a0 L0.length c0,.slice a1 L1.length c1,.slice a2 L2.length c2,.int .i64 x3,.slice a3 L3.length c3,.slice a4 L4.length c4,.slice a5 L5.length c5,.int .i64 x7],[.int .i64 x8,.int .i64 x9],(fun k=>T0 k∨T1 k∨T2 k∨T3 k∨T4 k∨T5 k),(fun _=>False),rfl,(fun k h=>by rcases h with h | h | h | h | h | h <;> first | exact hs0 k h | exact hs1 k h | exact hs2 k h | exact hs3 k h | exact hs4 k h | exact hs5 k h),(fun k h=>h.elim),(fun k h h'=>h'.elim),⟨[.slice a0 L0.length c0,.slice a1 L1.length c1,.slice a2 L2.length c2,.int .i64 x3],[.slice a3 L3.length c3,.slice a4 L4.length c4,.slice a5 L5.length c5,.int .i64 x7],(fun k=>T0 k∨T1 k∨T2 k),(fun k=>T3 k∨T4 k∨T5 k),rfl,(fun k h=>by rcases h with h | h | h <;> first | exact .inl h | exact .inr (.inl h) | exact .inr (.inr (.inl h))),(fun k h=>by rcases h with h | h | h <;> first | exact .inr (.inr (.inr (.inl h))) | exact .inr (.inr (.inr (.inr (.inl h)))) | exact .inr (.inr (.inr (.inr (.inr (h)))))),(fun k h h'=>by rcases h with h | h | h <;> rcases h' with h' | h' | h' <;> first | exact mM k h h' | exact mK k h h' | exact mJ k h h' | exact mI k h h' | exact mH k h h' | exact mG k h h' | exact mF k h h' | exact mE k h h' | exact mD k h h'),⟨[.slice a0 L0.length c0],[.slice a1 L1.length c1,.slice a2 L2.length c2,.int .i64 x3],T0,(fun k=>T1 k∨T2 k),rfl,(fun k h=>.inl h),(fun k h=>by rcases h with h | h <;> first | exact .inr (.inl h) | exact .inr (.inr (h))),(fun k h h'=>by rcases h' with h' | h' <;> first | exact jO k h h' | exact jN k h h'),⟨a0,c0,rfl,dP⟩,⟨[.slice a1 L1.length c1],[.slice a2 L2.length c2,.int .i64 x3],T1,T2,rfl,(fun k h=>.inl h),(fun k h=>.inr (h)),jM,⟨a1,c1,rfl,gN⟩,⟨[.slice a2 L2.length c2],[.int .i64 x3],T2,(fun _=>False),rfl,(fun k h=>h),(fun k h=>h.elim),(fun k h h'=>h'.elim),⟨a2,c2,rfl,gM⟩,rfl⟩⟩⟩,⟨[.slice a3 L3.length c3],[.slice a4 L4.length c4,.slice a5 L5.length c5,.int .i64 x7],T3,(fun k=>T4 k∨T5 k),rfl,(fun k h=>.inl h),(fun k h=>by rcases h with h | h <;> first | exact .inr (.inl h) | exact .inr (.inr (h))),(fun k h h'=>by rcases h' with h' | h' <;> first | exact mq k h h' | exact mo k h h'),⟨a3,c3,rfl,ko⟩,⟨[.slice a4 L4.length c4],[.slice a5 L5.length c5,.int .i64 x7],T4,T5,rfl,(fun k h=>.inl h),(fun k h=>.inr (h)),mh,⟨a4,c4,rfl,kg⟩,⟨[.slice a5 L5.length c5],[.int .i64 x7],T5,(fun _=>False),rfl,(fun k h=>h),(fun k h=>h.elim),(fun k h h'=>h'.elim),⟨a5,c5,rfl,j6⟩,rfl⟩⟩⟩⟩,⟨[.int .i64 x8],[.int .i64 x9],(fun _=>False),(fun _=>False),rfl,(fun k h=>h.elim),(fun k h=>h.elim),(fun k h h'=>h.elim),rfl,rfl⟩⟩
theorem BI {W:World}{S:Nat→Prop}{L0:List (List (ay))}{L1:List (bA)}{L2:List (aX)}{x3:Int}{L3:List (aP)}{L4:List (aF)}{L5:List (bI)}{x7:Int}{x8:Int}{x9:Int}{cs:List Value}(h:cB.ow W S (((L0,L1,L2,x3),L3,L4,L5,x7),x8,x9) cs):∃ a0 c0 a1 c1 a2 c2 a3 c3 a4 c4 a5 c5,∃ T0 T1 T2 T3 T4 T5:Nat→Prop,cs = [.slice a0 L0.length c0,.slice a1 L1.length c1,.slice a2 L2.length c2,.int .i64 x3,.slice a3 L3.length c3,.slice a4 L4.length c4,.slice a5 L5.length c5,.int .i64 x7,.int .i64 x8,.int .i64 x9]∧(∀ k,T0 k→S k)∧(∀ k,T1 k→S k)∧(∀ k,T2 k→S k)∧(∀ k,T3 k→S k)∧(∀ k,T4 k→S k)∧(∀ k,T5 k→S k)∧(∀ k,T0 k→¬T1 k)∧(∀ k,T0 k→¬T2 k)∧(∀ k,T0 k→¬T3 k)∧(∀ k,T0 k→¬T4 k)∧(∀ k,T0 k→¬T5 k)∧(∀ k,T1 k→¬T2 k)∧(∀ k,T1 k→¬T3 k)∧(∀ k,T1 k→¬T4 k)∧(∀ k,T1 k→¬T5 k)∧(∀ k,T2 k→¬T3 k)∧(∀ k,T2 k→¬T4 k)∧(∀ k,T2 k→¬T5 k)∧(∀ k,T3 k→¬T4 k)∧(∀ k,T3 k→¬T5 k)∧(∀ k,T4 k→¬T5 k)∧bH (Sl av) W T0 L0 a0 c0∧bH aT W T1 L1 a1 c1∧bH aN W T2 L2 a2 c2∧bH aL W T3 L3 a3 c3∧bH aI W T4 L4 a4 c4∧bH bC W T5 L5 a5 c5:=by
 obtain ⟨u1,v1,A1,B1,rfl,sa1,sb1,dd1,h1,g1⟩:=h
 obtain ⟨u2,v2,A2,B2,rfl,JW,Et,FL,h2,g2⟩:=h1
 obtain ⟨u3,v3,A3,B3,rfl,FQ,Es,dd3,h3,g3⟩:=h2
 obtain ⟨a0,c0,rfl,dY⟩:=h3
 obtain ⟨u4,v4,A4,B4,rfl,Mt,Xz,dd4,h4,g4⟩:=g3
 obtain ⟨a1,c1,rfl,l7⟩:=h4
 obtain ⟨u5,v5,A5,B5,rfl,RU,Sb,dd5,h5,g5⟩:=g4
 obtain ⟨a2,c2,rfl,lZ⟩:=h5
 obtain rfl:v5 = [_]:=g5
 obtain ⟨u6,v6,A6,B6,rfl,Sc,JJ,dd6,h6,g6⟩:=g2
 obtain ⟨a3,c3,rfl,oD⟩:=h6
 obtain ⟨u7,v7,A7,B7,rfl,O7,sb7,dd7,h7,g7⟩:=g6
 obtain ⟨a4,c4,rfl,oC⟩:=h7
 obtain ⟨u8,v8,A8,B8,rfl,sa8,sb8,dd8,h8,g8⟩:=g7
 obtain ⟨a5,c5,rfl,oz⟩:=h8
 obtain rfl:v8 = [_]:=g8
 obtain ⟨u9,v9,A9,B9,rfl,sa9,sb9,dd9,h9,g9⟩:=g1
 obtain rfl:u9 = [_]:=h9
 obtain rfl:v9 = [_]:=g9
 exact ⟨a0,c0,a1,c1,a2,c2,a3,c3,a4,c4,a5,c5,A3,A4,A5,A6,A7,A8,rfl,fun k h=>sa1 k (JW k (FQ k (h))),fun k h=>sa1 k (JW k (Es k (Mt k (h)))),fun k h=>sa1 k (JW k (Es k (Xz k (RU k (h))))),fun k h=>sa1 k (Et k (Sc k (h))),fun k h=>sa1 k (Et k (JJ k (O7 k (h)))),fun k h=>sa1 k (Et k (JJ k (sb7 k (sa8 k (h))))),fun k h h'=>dd3 k (h) (Mt k (h')),fun k h h'=>dd3 k (h) (Xz k (RU k (h'))),fun k h h'=>FL k (FQ k (h)) (Sc k (h')),fun k h h'=>FL k (FQ k (h)) (JJ k (O7 k (h'))),fun k h h'=>FL k (FQ k (h)) (JJ k (sb7 k (sa8 k (h')))),fun k h h'=>dd4 k (h) (RU k (h')),fun k h h'=>FL k (Es k (Mt k (h))) (Sc k (h')),fun k h h'=>FL k (Es k (Mt k (h))) (JJ k (O7 k (h'))),fun k h h'=>FL k (Es k (Mt k (h))) (JJ k (sb7 k (sa8 k (h')))),fun k h h'=>FL k (Es k (Xz k (RU k (h)))) (Sc k (h')),fun k h h'=>FL k (Es k (Xz k (RU k (h)))) (JJ k (O7 k (h'))),fun k h h'=>FL k (Es k (Xz k (RU k (h)))) (JJ k (sb7 k (sa8 k (h')))),fun k h h'=>dd6 k (h) (O7 k (h')),fun k h h'=>dd6 k (h) (sb7 k (sa8 k (h'))),fun k h h'=>dd7 k (h) (sa8 k (h')),dY,l7,lZ,oD,oC,oz⟩
theorem Zr {L0:List (List (ay))}{L1:List (bA)}{L2:List (aX)}{x3:Int}{L3:List (aP)}{L4:List (aF)}{L5:List (bI)}{x7:Int}{a0:Option Addr}{c0:Nat}{a1:Option Addr}{c1:Nat}{a2:Option Addr}{c2:Nat}{a3:Option Addr}{c3:Nat}{a4:Option Addr}{c4:Nat}{a5:Option Addr}{c5:Nat}{W:World}(hsz:bW.sz ((L0,L1,L2,x3),L3,L4,L5,x7)≤1048576)(dP:aJ (Sl av) W W.heap.size L0 a0 c0)(gN:aJ aT W W.heap.size L1 a1 c1)(gM:aJ aN W W.heap.size L2 a2 c2)(ko:aJ aL W W.heap.size L3 a3 c3)(kg:aJ aI W W.heap.size L4 a4 c4)(j6:aJ bC W W.heap.size L5 a5 c5):Calls Tryz.prog 9 #[.agg #[.slice a0 L0.length c0,.slice a1 L1.length c1,.slice a2 L2.length c2,.int .i64 x3,.slice a3 L3.length c3,.slice a4 L4.length c4,.slice a5 L5.length c5,.int .i64 x7]] W (kT bW ((L0,L1,L2,x3),L3,L4,L5,x7) W):=by
 have jJ:=ak dP
 have pJ:=ak gN
 have pI:=ak gM
 have Aq:=ak ko
 have Ap:=ak kg
 have Ao:=ak j6
 have nI:=ak hsz
 clear hsz dP gN gM ko kg j6
 have hP:=((aO.new W 31 #[.slice a0 L0.length c0,.slice a1 L1.length c1,.slice a2 L2.length c2,.int .i64 x3,.slice a3 L3.length c3,.slice a4 L4.length c4,.slice a5 L5.length c5,.int .i64 x7]).alloc (.cells #[.slice none 0 0,.slice none 0 0,.slice none 0 0,.int .i64 0,.slice none 0 0,.slice none 0 0,.slice none 0 0,.int .i64 0] 44)).alloc (.cells #[.slice none 0 0,.slice none 0 0,.slice none 0 0,.int .i64 0,.slice none 0 0,.slice none 0 0,.slice none 0 0,.int .i64 0] 44)
 have hR:=(aO.new (W.alloc (.cells #[.slice a0 L0.length c0,.slice a1 L1.length c1,.slice a2 L2.length c2,.int .i64 x3,.slice a3 L3.length c3,.slice a4 L4.length c4,.slice a5 L5.length c5,.int .i64 x7] 31)) 44 #[.slice none 0 0,.slice none 0 0,.slice none 0 0,.int .i64 0,.slice none 0 0,.slice none 0 0,.slice none 0 0,.int .i64 0]).alloc (.cells #[.slice none 0 0,.slice none 0 0,.slice none 0 0,.int .i64 0,.slice none 0 0,.slice none 0 0,.slice none 0 0,.int .i64 0] 44)
 have hO:=aO.new ((W.alloc (.cells #[.slice a0 L0.length c0,.slice a1 L1.length c1,.slice a2 L2.length c2,.int .i64 x3,.slice a3 L3.length c3,.slice a4 L4.length c4,.slice a5 L5.length c5,.int .i64 x7] 31)).alloc (.cells #[.slice none 0 0,.slice none 0 0,.slice none 0 0,.int .i64 0,.slice none 0 0,.slice none 0 0,.slice none 0 0,.int .i64 0] 44)) 44 #[.slice none 0 0,.slice none 0 0,.slice none 0 0,.int .i64 0,.slice none 0 0,.slice none 0 0,.slice none 0 0,.int .i64 0]
 simp only [World.size_alloc] at hP hR hO
 have HB0:=ak (show Below W.heap.size W (((W.alloc (.cells #[.slice a0 L0.length c0,.slice a1 L1.length c1,.slice a2 L2.length c2,.int .i64 x3,.slice a3 L3.length c3,.slice a4 L4.length c4,.slice a5 L5.length c5,.int .i64 x7] 31)).alloc (.cells #[.slice none 0 0,.slice none 0 0,.slice none 0 0,.int .i64 0,.slice none 0 0,.slice none 0 0,.slice none 0 0,.int .i64 0] 44)).alloc (.cells #[.slice none 0 0,.slice none 0 0,.slice none 0 0,.int .i64 0,.slice none 0 0,.slice none 0 0,.slice none 0 0,.int .i64 0] 44)) from (((aW _ _).alloc (bK _) _).alloc (by simp) _).alloc (by simp;omega) _)
 have hz0:W.heap.size+3≤(((W.alloc (.cells #[.slice a0 L0.length c0,.slice a1 L1.length c1,.slice a2 L2.length c2,.int .i64 x3,.slice a3 L3.length c3,.slice a4 L4.length c4,.slice a5 L5.length c5,.int .i64 x7] 31)).alloc (.cells #[.slice none 0 0,.slice none 0 0,.slice none 0 0,.int .i64 0,.slice none 0 0,.slice none 0 0,.slice none 0 0,.int .i64 0] 44)).alloc (.cells #[.slice none 0 0,.slice none 0 0,.slice none 0 0,.int .i64 0,.slice none 0 0,.slice none 0 0,.slice none 0 0,.int .i64 0] 44)).heap.size:=by simp
 have gY:=ak hP
 have Ab:=ak hR
 have zo:=ak hO
 clear hP hR hO
 go_enter Tryz.func9,Tryz.ntmps9
 go_wp2_with fail
 refine (Qz (by have h0:=nI.out;simp only [bW,cu,Pr,Sl,I,Bo,atom] at h0 ⊢;omega) ((jJ.out.below (aZ au) HB0.out).more (aZ au) (by have h0:=hz0;first | omega | (simp;omega))) ((pJ.out.below aG HB0.out).more aG (by have h0:=hz0;first | omega | (simp;omega))) ((pI.out.below aC HB0.out).more aC (by have h0:=hz0;first | omega | (simp;omega)))).mono ?_
 intro e w1 h
 obtain ⟨vs,rfl,how,hb⟩:=bY h
 obtain ⟨fu,fq,iJ,iI,j3,jZ,S_L0,S_L1,S_L2,rfl,aaK,aaJ,aaI,WE,WC,WB,mO,Bd,Bc⟩:=sj how
 have hP:aO w1 (W.heap.size) 31 #[.slice a0 L0.length c0,.slice a1 L1.length c1,.slice a2 L2.length c2,.int .i64 x3,.slice a3 L3.length c3,.slice a4 L4.length c4,.slice a5 L5.length c5,.int .i64 x7]:=aO.call gY.out hb
 have hR:aO w1 (W.heap.size+1) 44 #[.slice none 0 0,.slice none 0 0,.slice none 0 0,.int .i64 0,.slice none 0 0,.slice none 0 0,.slice none 0 0,.int .i64 0]:=aO.call Ab.out hb
 have hO:aO w1 (W.heap.size+1+1) 44 #[.slice none 0 0,.slice none 0 0,.slice none 0 0,.int .i64 0,.slice none 0 0,.slice none 0 0,.slice none 0 0,.int .i64 0]:=aO.call zo.out hb
 have hz1:W.heap.size+3≤w1.heap.size:=eF hz0 (bP hb (S:=fun x=>x<W.heap.size+3) (Off.refl (fun x=>x<W.heap.size+3) _))
 have HB1:=ak (Below.trans (B:=W.heap.size) (a:=W) HB0.out (hb.mono (by have h0:=hz0;first | omega | (simp;omega))))
 have kN:=ak mO
 have dR:=ak (fun k hk=>eH hb (m:=W.heap.size+3) (by have h0:=hz0;first | omega | (simp;omega)) k (aaK k hk))
 have yN:=ak (fun k (hk:S_L0 k)=>eH hb (m:=0) (dV _) k (aaK k hk))
 have qV:=ak Bd
 have gQ:=ak (fun k hk=>eH hb (m:=W.heap.size+3) (by have h0:=hz0;first | omega | (simp;omega)) k (aaJ k hk))
 have GL:=ak (fun k (hk:S_L1 k)=>eH hb (m:=0) (dV _) k (aaJ k hk))
 have vX:=ak Bc
 have iZ:=ak (fun k hk=>eH hb (m:=W.heap.size+3) (by have h0:=hz0;first | omega | (simp;omega)) k (aaI k hk))
 have Nj:=ak (fun k (hk:S_L2 k)=>eH hb (m:=0) (dV _) k (aaI k hk))
 have Xk:=ak WE
 have Xj:=ak WC
 have Xi:=ak WB
 have cZ:=ak hP
 have HR1:=ak hR
 have rQ:=ak hO
 clear h hb hP hR hO how mO Bd Bc
 obtain ⟨vK,qK,ou,uL,zH,Gj,Gi,Kh⟩:=cZ.out.gy rfl
 obtain ⟨CS,CQ,ED,Gl,SI,o1_5,o1_6,o1_7⟩:=rQ.out.gy rfl
 obtain ⟨CK,CJ,Ez,Gf,SA,r1_5,r1_6,r1_7⟩:=HR1.out.gy rfl
 obtain ⟨CZ,CY,EG,Gp,Ti,f1_5,f1_6,f1_7⟩:=rQ.out.zF
 obtain ⟨CX,CW,EF,Gn,Tg,g1_5,g1_6,g1_7⟩:=HR1.out.zF
 go_wp2_with fail
 refine (Vy (by have h0:=nI.out;simp only [bW,Pr,Sl,I,Bo,atom] at h0 ⊢;omega) ((Aq.out.below aK ((((HB1.out.setCell (p:=⟨W.heap.size+1+1,0,none⟩) (by show W.heap.size≤W.heap.size+1+1;omega) (.slice fu L0.length fq)).setCell (p:=⟨W.heap.size+1+1,1,none⟩) (by show W.heap.size≤W.heap.size+1+1;omega) (.slice iJ L1.length iI)).setCell (p:=⟨W.heap.size+1+1,2,none⟩) (by show W.heap.size≤W.heap.size+1+1;omega) (.slice j3 L2.length jZ)).setCell (p:=⟨W.heap.size+1+1,3,none⟩) (by show W.heap.size≤W.heap.size+1+1;omega) (.int .i64 x3))).more aK (by have h0:=hz1;first | omega | (simp;omega)))).mono ?_
 intro e w2 h
 obtain ⟨nA,nu,rfl,Vg,hb⟩:=bL h
 have hP:aO w2 (W.heap.size) 31 #[.slice a0 L0.length c0,.slice a1 L1.length c1,.slice a2 L2.length c2,.int .i64 x3,.slice a3 L3.length c3,.slice a4 L4.length c4,.slice a5 L5.length c5,.int .i64 x7]:=aO.call (aO.far (b:=W.heap.size+1+1) (o:=3) (aO.far (b:=W.heap.size+1+1) (o:=2) (aO.far (b:=W.heap.size+1+1) (o:=1) (aO.far (b:=W.heap.size+1+1) (o:=0) cZ.out (by omega) (.slice fu L0.length fq)) (by omega) (.slice iJ L1.length iI)) (by omega) (.slice j3 L2.length jZ)) (by omega) (.int .i64 x3)) hb
 have hR:aO w2 (W.heap.size+1) 44 #[.slice none 0 0,.slice none 0 0,.slice none 0 0,.int .i64 0,.slice none 0 0,.slice none 0 0,.slice none 0 0,.int .i64 0]:=aO.call (aO.far (b:=W.heap.size+1+1) (o:=3) (aO.far (b:=W.heap.size+1+1) (o:=2) (aO.far (b:=W.heap.size+1+1) (o:=1) (aO.far (b:=W.heap.size+1+1) (o:=0) HR1.out (by omega) (.slice fu L0.length fq)) (by omega) (.slice iJ L1.length iI)) (by omega) (.slice j3 L2.length jZ)) (by omega) (.int .i64 x3)) hb
 have hO:aO w2 (W.heap.size+1+1) 44 #[.slice fu L0.length fq,.slice iJ L1.length iI,.slice j3 L2.length jZ,.int .i64 x3,.slice none 0 0,.slice none 0 0,.slice none 0 0,.int .i64 0]:=aO.call (aO.set (aO.set (aO.set (aO.set rQ.out 0 (.slice fu L0.length fq)) 1 (.slice iJ L1.length iI)) 2 (.slice j3 L2.length jZ)) 3 (.int .i64 x3)) hb
 have hz2:W.heap.size+3≤w2.heap.size:=eF hz1 (bP hb (S:=fun x=>x<W.heap.size+3) (((((Off.refl (fun x=>x<W.heap.size+3) w1).setCell (p:=⟨W.heap.size+1+1,0,none⟩) (by show W.heap.size+1+1<W.heap.size+3;omega) (.slice fu L0.length fq)).setCell (p:=⟨W.heap.size+1+1,1,none⟩) (by show W.heap.size+1+1<W.heap.size+3;omega) (.slice iJ L1.length iI)).setCell (p:=⟨W.heap.size+1+1,2,none⟩) (by show W.heap.size+1+1<W.heap.size+3;omega) (.slice j3 L2.length jZ)).setCell (p:=⟨W.heap.size+1+1,3,none⟩) (by show W.heap.size+1+1<W.heap.size+3;omega) (.int .i64 x3)))
 have kN:=ak (kN.out.keep (aZ au) (fun k hk=>eP hb (S:=fun x=>x<W.heap.size+3) (((((Off.refl (fun x=>x<W.heap.size+3) w1).setCell (p:=⟨W.heap.size+1+1,0,none⟩) (by show W.heap.size+1+1<W.heap.size+3;omega) (.slice fu L0.length fq)).setCell (p:=⟨W.heap.size+1+1,1,none⟩) (by show W.heap.size+1+1<W.heap.size+3;omega) (.slice iJ L1.length iI)).setCell (p:=⟨W.heap.size+1+1,2,none⟩) (by show W.heap.size+1+1<W.heap.size+3;omega) (.slice j3 L2.length jZ)).setCell (p:=⟨W.heap.size+1+1,3,none⟩) (by show W.heap.size+1+1<W.heap.size+3;omega) (.int .i64 x3)) k (dR.out k hk).2 (by have:=(dR.out k hk).1;omega)))
 have qV:=ak (qV.out.keep aG (fun k hk=>eP hb (S:=fun x=>x<W.heap.size+3) (((((Off.refl (fun x=>x<W.heap.size+3) w1).setCell (p:=⟨W.heap.size+1+1,0,none⟩) (by show W.heap.size+1+1<W.heap.size+3;omega) (.slice fu L0.length fq)).setCell (p:=⟨W.heap.size+1+1,1,none⟩) (by show W.heap.size+1+1<W.heap.size+3;omega) (.slice iJ L1.length iI)).setCell (p:=⟨W.heap.size+1+1,2,none⟩) (by show W.heap.size+1+1<W.heap.size+3;omega) (.slice j3 L2.length jZ)).setCell (p:=⟨W.heap.size+1+1,3,none⟩) (by show W.heap.size+1+1<W.heap.size+3;omega) (.int .i64 x3)) k (gQ.out k hk).2 (by have:=(gQ.out k hk).1;omega)))
 have vX:=ak (vX.out.keep aC (fun k hk=>eP hb (S:=fun x=>x<W.heap.size+3) (((((Off.refl (fun x=>x<W.heap.size+3) w1).setCell (p:=⟨W.heap.size+1+1,0,none⟩) (by show W.heap.size+1+1<W.heap.size+3;omega) (.slice fu L0.length fq)).setCell (p:=⟨W.heap.size+1+1,1,none⟩) (by show W.heap.size+1+1<W.heap.size+3;omega) (.slice iJ L1.length iI)).setCell (p:=⟨W.heap.size+1+1,2,none⟩) (by show W.heap.size+1+1<W.heap.size+3;omega) (.slice j3 L2.length jZ)).setCell (p:=⟨W.heap.size+1+1,3,none⟩) (by show W.heap.size+1+1<W.heap.size+3;omega) (.int .i64 x3)) k (iZ.out k hk).2 (by have:=(iZ.out k hk).1;omega)))
 have dR:=ak (fun k hk=>(⟨(dR.out k hk).1,bV (dR.out k hk).2 (bP hb (S:=fun x=>x<W.heap.size+3) (((((Off.refl (fun x=>x<W.heap.size+3) w1).setCell (p:=⟨W.heap.size+1+1,0,none⟩) (by show W.heap.size+1+1<W.heap.size+3;omega) (.slice fu L0.length fq)).setCell (p:=⟨W.heap.size+1+1,1,none⟩) (by show W.heap.size+1+1<W.heap.size+3;omega) (.slice iJ L1.length iI)).setCell (p:=⟨W.heap.size+1+1,2,none⟩) (by show W.heap.size+1+1<W.heap.size+3;omega) (.slice j3 L2.length jZ)).setCell (p:=⟨W.heap.size+1+1,3,none⟩) (by show W.heap.size+1+1<W.heap.size+3;omega) (.int .i64 x3)))⟩:W.heap.size+3≤k∧k<w2.heap.size))
 have gQ:=ak (fun k hk=>(⟨(gQ.out k hk).1,bV (gQ.out k hk).2 (bP hb (S:=fun x=>x<W.heap.size+3) (((((Off.refl (fun x=>x<W.heap.size+3) w1).setCell (p:=⟨W.heap.size+1+1,0,none⟩) (by show W.heap.size+1+1<W.heap.size+3;omega) (.slice fu L0.length fq)).setCell (p:=⟨W.heap.size+1+1,1,none⟩) (by show W.heap.size+1+1<W.heap.size+3;omega) (.slice iJ L1.length iI)).setCell (p:=⟨W.heap.size+1+1,2,none⟩) (by show W.heap.size+1+1<W.heap.size+3;omega) (.slice j3 L2.length jZ)).setCell (p:=⟨W.heap.size+1+1,3,none⟩) (by show W.heap.size+1+1<W.heap.size+3;omega) (.int .i64 x3)))⟩:W.heap.size+3≤k∧k<w2.heap.size))
 have iZ:=ak (fun k hk=>(⟨(iZ.out k hk).1,bV (iZ.out k hk).2 (bP hb (S:=fun x=>x<W.heap.size+3) (((((Off.refl (fun x=>x<W.heap.size+3) w1).setCell (p:=⟨W.heap.size+1+1,0,none⟩) (by show W.heap.size+1+1<W.heap.size+3;omega) (.slice fu L0.length fq)).setCell (p:=⟨W.heap.size+1+1,1,none⟩) (by show W.heap.size+1+1<W.heap.size+3;omega) (.slice iJ L1.length iI)).setCell (p:=⟨W.heap.size+1+1,2,none⟩) (by show W.heap.size+1+1<W.heap.size+3;omega) (.slice j3 L2.length jZ)).setCell (p:=⟨W.heap.size+1+1,3,none⟩) (by show W.heap.size+1+1<W.heap.size+3;omega) (.int .i64 x3)))⟩:W.heap.size+3≤k∧k<w2.heap.size))
 have HB2:=ak (Below.trans (B:=W.heap.size) (a:=W) ((((HB1.out.setCell (p:=⟨W.heap.size+1+1,0,none⟩) (by show W.heap.size≤W.heap.size+1+1;omega) (.slice fu L0.length fq)).setCell (p:=⟨W.heap.size+1+1,1,none⟩) (by show W.heap.size≤W.heap.size+1+1;omega) (.slice iJ L1.length iI)).setCell (p:=⟨W.heap.size+1+1,2,none⟩) (by show W.heap.size≤W.heap.size+1+1;omega) (.slice j3 L2.length jZ)).setCell (p:=⟨W.heap.size+1+1,3,none⟩) (by show W.heap.size≤W.heap.size+1+1;omega) (.int .i64 x3)) (hb.mono (by have h0:=hz1;first | omega | (simp;omega))))
 have GQ:=ak Vg
 have nO:=ak (fun k hk=>eH hb (m:=W.heap.size+3) (by have h0:=hz1;first | omega | (simp;omega)) k hk)
 have abh:=ak (eH hb (m:=0) (dV _))
 have UG:=ak (Du hb (((((Off.refl (fun x=>x<W.heap.size+3) w1).setCell (p:=⟨W.heap.size+1+1,0,none⟩) (by show W.heap.size+1+1<W.heap.size+3;omega) (.slice fu L0.length fq)).setCell (p:=⟨W.heap.size+1+1,1,none⟩) (by show W.heap.size+1+1<W.heap.size+3;omega) (.slice iJ L1.length iI)).setCell (p:=⟨W.heap.size+1+1,2,none⟩) (by show W.heap.size+1+1<W.heap.size+3;omega) (.slice j3 L2.length jZ)).setCell (p:=⟨W.heap.size+1+1,3,none⟩) (by show W.heap.size+1+1<W.heap.size+3;omega) (.int .i64 x3)))
 have hle2:=bP hb (((((Off.refl (fun x=>x<W.heap.size+3) w1).setCell (p:=⟨W.heap.size+1+1,0,none⟩) (by show W.heap.size+1+1<W.heap.size+3;omega) (.slice fu L0.length fq)).setCell (p:=⟨W.heap.size+1+1,1,none⟩) (by show W.heap.size+1+1<W.heap.size+3;omega) (.slice iJ L1.length iI)).setCell (p:=⟨W.heap.size+1+1,2,none⟩) (by show W.heap.size+1+1<W.heap.size+3;omega) (.slice j3 L2.length jZ)).setCell (p:=⟨W.heap.size+1+1,3,none⟩) (by show W.heap.size+1+1<W.heap.size+3;omega) (.int .i64 x3))
 have iD:=ak hP
 have HR2:=ak hR
 have vJ:=ak hO
 clear h hb hP hR hO Vg
 clear vK CS CK CZ CX qK CQ CJ CY CW ou ED Ez EG EF uL Gl Gf Gp Gn zH SI SA Ti Tg Gj o1_5 r1_5 f1_5 g1_5 Gi o1_6 r1_6 f1_6 g1_6 Kh o1_7 r1_7 f1_7 g1_7
 obtain ⟨CP,CO,zG,Gh,PK,PI,PG,SG⟩:=iD.out.gy rfl
 obtain ⟨PV,PU,PS,PO,YN,o2_5,o2_6,o2_7⟩:=vJ.out.gy rfl
 obtain ⟨PD,Pz,Py,Px,YH,r2_5,r2_6,r2_7⟩:=HR2.out.gy rfl
 obtain ⟨Qc,Qb,Qa,P9,YT,f2_5,f2_6,f2_7⟩:=vJ.out.zF
 obtain ⟨P7,P6,P5,PZ,YS,g2_5,g2_6,g2_7⟩:=HR2.out.zF
 go_wp2_with fail
 refine (Vu (by have h0:=nI.out;simp only [bW,Pr,Sl,I,Bo,atom] at h0 ⊢;omega) ((Ap.out.below aA (HB2.out.setCell (p:=⟨W.heap.size+1+1,4,none⟩) (by show W.heap.size≤W.heap.size+1+1;omega) (.slice nA L3.length nu))).more aA (by have h0:=hz2;first | omega | (simp;omega)))).mono ?_
 intro e w3 h
 obtain ⟨mg,l9,rfl,Vf,hb⟩:=bL h
 have hP:aO w3 (W.heap.size) 31 #[.slice a0 L0.length c0,.slice a1 L1.length c1,.slice a2 L2.length c2,.int .i64 x3,.slice a3 L3.length c3,.slice a4 L4.length c4,.slice a5 L5.length c5,.int .i64 x7]:=aO.call (aO.far (b:=W.heap.size+1+1) (o:=4) iD.out (by omega) (.slice nA L3.length nu)) hb
 have hR:aO w3 (W.heap.size+1) 44 #[.slice none 0 0,.slice none 0 0,.slice none 0 0,.int .i64 0,.slice none 0 0,.slice none 0 0,.slice none 0 0,.int .i64 0]:=aO.call (aO.far (b:=W.heap.size+1+1) (o:=4) HR2.out (by omega) (.slice nA L3.length nu)) hb
 have hO:aO w3 (W.heap.size+1+1) 44 #[.slice fu L0.length fq,.slice iJ L1.length iI,.slice j3 L2.length jZ,.int .i64 x3,.slice nA L3.length nu,.slice none 0 0,.slice none 0 0,.int .i64 0]:=aO.call (aO.set vJ.out 4 (.slice nA L3.length nu)) hb
 have hz3:W.heap.size+3≤w3.heap.size:=eF hz2 (bP hb (S:=fun x=>x<W.heap.size+3) ((Off.refl (fun x=>x<W.heap.size+3) w2).setCell (p:=⟨W.heap.size+1+1,4,none⟩) (by show W.heap.size+1+1<W.heap.size+3;omega) (.slice nA L3.length nu)))
 have kN:=ak (kN.out.keep (aZ au) (fun k hk=>eP hb (S:=fun x=>x<W.heap.size+3) ((Off.refl (fun x=>x<W.heap.size+3) w2).setCell (p:=⟨W.heap.size+1+1,4,none⟩) (by show W.heap.size+1+1<W.heap.size+3;omega) (.slice nA L3.length nu)) k (dR.out k hk).2 (by have:=(dR.out k hk).1;omega)))
 have qV:=ak (qV.out.keep aG (fun k hk=>eP hb (S:=fun x=>x<W.heap.size+3) ((Off.refl (fun x=>x<W.heap.size+3) w2).setCell (p:=⟨W.heap.size+1+1,4,none⟩) (by show W.heap.size+1+1<W.heap.size+3;omega) (.slice nA L3.length nu)) k (gQ.out k hk).2 (by have:=(gQ.out k hk).1;omega)))
 have vX:=ak (vX.out.keep aC (fun k hk=>eP hb (S:=fun x=>x<W.heap.size+3) ((Off.refl (fun x=>x<W.heap.size+3) w2).setCell (p:=⟨W.heap.size+1+1,4,none⟩) (by show W.heap.size+1+1<W.heap.size+3;omega) (.slice nA L3.length nu)) k (iZ.out k hk).2 (by have:=(iZ.out k hk).1;omega)))
 have GQ:=ak (GQ.out.keep aK (fun k hk=>eP hb (S:=fun x=>x<W.heap.size+3) ((Off.refl (fun x=>x<W.heap.size+3) w2).setCell (p:=⟨W.heap.size+1+1,4,none⟩) (by show W.heap.size+1+1<W.heap.size+3;omega) (.slice nA L3.length nu)) k (nO.out k hk).2 (by have:=(nO.out k hk).1;omega)))
 have dR:=ak (fun k hk=>(⟨(dR.out k hk).1,bV (dR.out k hk).2 (bP hb (S:=fun x=>x<W.heap.size+3) ((Off.refl (fun x=>x<W.heap.size+3) w2).setCell (p:=⟨W.heap.size+1+1,4,none⟩) (by show W.heap.size+1+1<W.heap.size+3;omega) (.slice nA L3.length nu)))⟩:W.heap.size+3≤k∧k<w3.heap.size))
 have gQ:=ak (fun k hk=>(⟨(gQ.out k hk).1,bV (gQ.out k hk).2 (bP hb (S:=fun x=>x<W.heap.size+3) ((Off.refl (fun x=>x<W.heap.size+3) w2).setCell (p:=⟨W.heap.size+1+1,4,none⟩) (by show W.heap.size+1+1<W.heap.size+3;omega) (.slice nA L3.length nu)))⟩:W.heap.size+3≤k∧k<w3.heap.size))
 have iZ:=ak (fun k hk=>(⟨(iZ.out k hk).1,bV (iZ.out k hk).2 (bP hb (S:=fun x=>x<W.heap.size+3) ((Off.refl (fun x=>x<W.heap.size+3) w2).setCell (p:=⟨W.heap.size+1+1,4,none⟩) (by show W.heap.size+1+1<W.heap.size+3;omega) (.slice nA L3.length nu)))⟩:W.heap.size+3≤k∧k<w3.heap.size))
 have nO:=ak (fun k hk=>(⟨(nO.out k hk).1,bV (nO.out k hk).2 (bP hb (S:=fun x=>x<W.heap.size+3) ((Off.refl (fun x=>x<W.heap.size+3) w2).setCell (p:=⟨W.heap.size+1+1,4,none⟩) (by show W.heap.size+1+1<W.heap.size+3;omega) (.slice nA L3.length nu)))⟩:W.heap.size+3≤k∧k<w3.heap.size))
 have HB3:=ak (Below.trans (B:=W.heap.size) (a:=W) (HB2.out.setCell (p:=⟨W.heap.size+1+1,4,none⟩) (by show W.heap.size≤W.heap.size+1+1;omega) (.slice nA L3.length nu)) (hb.mono (by have h0:=hz2;first | omega | (simp;omega))))
 have UC:=ak Vf
 have vY:=ak (fun k hk=>eH hb (m:=W.heap.size+3) (by have h0:=hz2;first | omega | (simp;omega)) k hk)
 have ad9:=ak (eH hb (m:=0) (dV _))
 have Nl:=ak (Du hb ((Off.refl (fun x=>x<W.heap.size+3) w2).setCell (p:=⟨W.heap.size+1+1,4,none⟩) (by show W.heap.size+1+1<W.heap.size+3;omega) (.slice nA L3.length nu)))
 have hle3:=bP hb ((Off.refl (fun x=>x<W.heap.size+3) w2).setCell (p:=⟨W.heap.size+1+1,4,none⟩) (by show W.heap.size+1+1<W.heap.size+3;omega) (.slice nA L3.length nu))
 have iG:=ak hP
 have HR3:=ak hR
 have MX:=ak hO
 clear h hb hP hR hO Vf
 clear CP PV PD Qc P7 CO PU Pz Qb P6 zG PS Py Qa P5 Gh PO Px P9 PZ PK YN YH YT YS PI o2_5 r2_5 f2_5 g2_5 PG o2_6 r2_6 f2_6 g2_6 SG o2_7 r2_7 f2_7 g2_7
 obtain ⟨EC,EB,EA,YJ,SF,SE,Kg,YI⟩:=iG.out.gy rfl
 obtain ⟨o3_0,o3_1,o3_2,o3_3,o3_4,o3_5,o3_6,o3_7⟩:=MX.out.gy rfl
 obtain ⟨r3_0,r3_1,r3_2,r3_3,r3_4,r3_5,r3_6,r3_7⟩:=HR3.out.gy rfl
 obtain ⟨f3_0,f3_1,f3_2,f3_3,f3_4,f3_5,f3_6,f3_7⟩:=MX.out.zF
 obtain ⟨g3_0,g3_1,g3_2,g3_3,g3_4,g3_5,g3_6,g3_7⟩:=HR3.out.zF
 go_wp2_with fail
 refine (Zt (by have h0:=nI.out;simp only [bW,Pr,Sl,I,Bo,atom] at h0 ⊢;omega) ((Ao.out.below aU (HB3.out.setCell (p:=⟨W.heap.size+1+1,5,none⟩) (by show W.heap.size≤W.heap.size+1+1;omega) (.slice mg L4.length l9))).more aU (by have h0:=hz3;first | omega | (simp;omega)))).mono ?_
 intro e w4 h
 obtain ⟨Qe,Qd,rfl,Ve,hb⟩:=bL h
 have hP:aO w4 (W.heap.size) 31 #[.slice a0 L0.length c0,.slice a1 L1.length c1,.slice a2 L2.length c2,.int .i64 x3,.slice a3 L3.length c3,.slice a4 L4.length c4,.slice a5 L5.length c5,.int .i64 x7]:=aO.call (aO.far (b:=W.heap.size+1+1) (o:=5) iG.out (by omega) (.slice mg L4.length l9)) hb
 have hR:aO w4 (W.heap.size+1) 44 #[.slice none 0 0,.slice none 0 0,.slice none 0 0,.int .i64 0,.slice none 0 0,.slice none 0 0,.slice none 0 0,.int .i64 0]:=aO.call (aO.far (b:=W.heap.size+1+1) (o:=5) HR3.out (by omega) (.slice mg L4.length l9)) hb
 have hO:aO w4 (W.heap.size+1+1) 44 #[.slice fu L0.length fq,.slice iJ L1.length iI,.slice j3 L2.length jZ,.int .i64 x3,.slice nA L3.length nu,.slice mg L4.length l9,.slice none 0 0,.int .i64 0]:=aO.call (aO.set MX.out 5 (.slice mg L4.length l9)) hb
 have lW:W.heap.size+3≤w4.heap.size:=eF hz3 (bP hb (S:=fun x=>x<W.heap.size+3) ((Off.refl (fun x=>x<W.heap.size+3) w3).setCell (p:=⟨W.heap.size+1+1,5,none⟩) (by show W.heap.size+1+1<W.heap.size+3;omega) (.slice mg L4.length l9)))
 have kN:=ak (kN.out.keep (aZ au) (fun k hk=>eP hb (S:=fun x=>x<W.heap.size+3) ((Off.refl (fun x=>x<W.heap.size+3) w3).setCell (p:=⟨W.heap.size+1+1,5,none⟩) (by show W.heap.size+1+1<W.heap.size+3;omega) (.slice mg L4.length l9)) k (dR.out k hk).2 (by have:=(dR.out k hk).1;omega)))
 have qV:=ak (qV.out.keep aG (fun k hk=>eP hb (S:=fun x=>x<W.heap.size+3) ((Off.refl (fun x=>x<W.heap.size+3) w3).setCell (p:=⟨W.heap.size+1+1,5,none⟩) (by show W.heap.size+1+1<W.heap.size+3;omega) (.slice mg L4.length l9)) k (gQ.out k hk).2 (by have:=(gQ.out k hk).1;omega)))
 have vX:=ak (vX.out.keep aC (fun k hk=>eP hb (S:=fun x=>x<W.heap.size+3) ((Off.refl (fun x=>x<W.heap.size+3) w3).setCell (p:=⟨W.heap.size+1+1,5,none⟩) (by show W.heap.size+1+1<W.heap.size+3;omega) (.slice mg L4.length l9)) k (iZ.out k hk).2 (by have:=(iZ.out k hk).1;omega)))
 have GQ:=ak (GQ.out.keep aK (fun k hk=>eP hb (S:=fun x=>x<W.heap.size+3) ((Off.refl (fun x=>x<W.heap.size+3) w3).setCell (p:=⟨W.heap.size+1+1,5,none⟩) (by show W.heap.size+1+1<W.heap.size+3;omega) (.slice mg L4.length l9)) k (nO.out k hk).2 (by have:=(nO.out k hk).1;omega)))
 have UC:=ak (UC.out.keep aA (fun k hk=>eP hb (S:=fun x=>x<W.heap.size+3) ((Off.refl (fun x=>x<W.heap.size+3) w3).setCell (p:=⟨W.heap.size+1+1,5,none⟩) (by show W.heap.size+1+1<W.heap.size+3;omega) (.slice mg L4.length l9)) k (vY.out k hk).2 (by have:=(vY.out k hk).1;omega)))
 have dR:=ak (fun k hk=>(⟨(dR.out k hk).1,bV (dR.out k hk).2 (bP hb (S:=fun x=>x<W.heap.size+3) ((Off.refl (fun x=>x<W.heap.size+3) w3).setCell (p:=⟨W.heap.size+1+1,5,none⟩) (by show W.heap.size+1+1<W.heap.size+3;omega) (.slice mg L4.length l9)))⟩:W.heap.size+3≤k∧k<w4.heap.size))
 have gQ:=ak (fun k hk=>(⟨(gQ.out k hk).1,bV (gQ.out k hk).2 (bP hb (S:=fun x=>x<W.heap.size+3) ((Off.refl (fun x=>x<W.heap.size+3) w3).setCell (p:=⟨W.heap.size+1+1,5,none⟩) (by show W.heap.size+1+1<W.heap.size+3;omega) (.slice mg L4.length l9)))⟩:W.heap.size+3≤k∧k<w4.heap.size))
 have iZ:=ak (fun k hk=>(⟨(iZ.out k hk).1,bV (iZ.out k hk).2 (bP hb (S:=fun x=>x<W.heap.size+3) ((Off.refl (fun x=>x<W.heap.size+3) w3).setCell (p:=⟨W.heap.size+1+1,5,none⟩) (by show W.heap.size+1+1<W.heap.size+3;omega) (.slice mg L4.length l9)))⟩:W.heap.size+3≤k∧k<w4.heap.size))
 have nO:=ak (fun k hk=>(⟨(nO.out k hk).1,bV (nO.out k hk).2 (bP hb (S:=fun x=>x<W.heap.size+3) ((Off.refl (fun x=>x<W.heap.size+3) w3).setCell (p:=⟨W.heap.size+1+1,5,none⟩) (by show W.heap.size+1+1<W.heap.size+3;omega) (.slice mg L4.length l9)))⟩:W.heap.size+3≤k∧k<w4.heap.size))
 have vY:=ak (fun k hk=>(⟨(vY.out k hk).1,bV (vY.out k hk).2 (bP hb (S:=fun x=>x<W.heap.size+3) ((Off.refl (fun x=>x<W.heap.size+3) w3).setCell (p:=⟨W.heap.size+1+1,5,none⟩) (by show W.heap.size+1+1<W.heap.size+3;omega) (.slice mg L4.length l9)))⟩:W.heap.size+3≤k∧k<w4.heap.size))
 have jL:=ak (Below.trans (B:=W.heap.size) (a:=W) (HB3.out.setCell (p:=⟨W.heap.size+1+1,5,none⟩) (by show W.heap.size≤W.heap.size+1+1;omega) (.slice mg L4.length l9)) (hb.mono (by have h0:=hz3;first | omega | (simp;omega))))
 have aea:=ak Ve
 have Nk:=ak (fun k hk=>eH hb (m:=W.heap.size+3) (by have h0:=hz3;first | omega | (simp;omega)) k hk)
 have HU_L5:=ak (eH hb (m:=0) (dV _))
 have GU:=ak (Du hb ((Off.refl (fun x=>x<W.heap.size+3) w3).setCell (p:=⟨W.heap.size+1+1,5,none⟩) (by show W.heap.size+1+1<W.heap.size+3;omega) (.slice mg L4.length l9)))
 have hle4:=bP hb ((Off.refl (fun x=>x<W.heap.size+3) w3).setCell (p:=⟨W.heap.size+1+1,5,none⟩) (by show W.heap.size+1+1<W.heap.size+3;omega) (.slice mg L4.length l9))
 have j5:=ak hP
 have HR4:=ak hR
 have HO4:=ak hO
 clear h hb hP hR hO Ve
 clear EC o3_0 r3_0 f3_0 g3_0 EB o3_1 r3_1 f3_1 g3_1 EA o3_2 r3_2 f3_2 g3_2 YJ o3_3 r3_3 f3_3 g3_3 SF o3_4 r3_4 f3_4 g3_4 SE o3_5 r3_5 f3_5 g3_5 Kg o3_6 r3_6 f3_6 g3_6 YI o3_7 r3_7 f3_7 g3_7
 obtain ⟨p4_0,p4_1,p4_2,p4_3,p4_4,p4_5,p4_6,p4_7⟩:=j5.out.gy rfl
 obtain ⟨o4_0,o4_1,o4_2,o4_3,o4_4,o4_5,o4_6,o4_7⟩:=HO4.out.gy rfl
 obtain ⟨r4_0,r4_1,r4_2,r4_3,r4_4,r4_5,r4_6,r4_7⟩:=HR4.out.gy rfl
 obtain ⟨f4_0,f4_1,f4_2,f4_3,f4_4,f4_5,f4_6,f4_7⟩:=HO4.out.zF
 obtain ⟨g4_0,g4_1,g4_2,g4_3,g4_4,g4_5,g4_6,g4_7⟩:=HR4.out.zF
 go_wp2
 refine qC (v:=.agg #[.slice fu L0.length fq,.slice iJ L1.length iI,.slice j3 L2.length jZ,.int .i64 x3,.slice nA L3.length nu,.slice mg L4.length l9,.slice Qe L5.length Qd,.int .i64 x7]) (by simp [results,Tryz.results9,go_sem, *]) rfl ⟨[.slice fu L0.length fq,.slice iJ L1.length iI,.slice j3 L2.length jZ,.int .i64 x3,.slice nA L3.length nu,.slice mg L4.length l9,.slice Qe L5.length Qd,.int .i64 x7],rfl,?_,((((((((((jL.out.setCell (p:=⟨W.heap.size+1+1,6,none⟩) (by show W.heap.size≤W.heap.size+1+1;omega) (.slice Qe L5.length Qd)).setCell (p:=⟨W.heap.size+1+1,7,none⟩) (by show W.heap.size≤W.heap.size+1+1;omega) (.int .i64 x7)).setCell (p:=⟨W.heap.size+1,0,none⟩) (by show W.heap.size≤W.heap.size+1;omega) (.slice fu L0.length fq)).setCell (p:=⟨W.heap.size+1,1,none⟩) (by show W.heap.size≤W.heap.size+1;omega) (.slice iJ L1.length iI)).setCell (p:=⟨W.heap.size+1,2,none⟩) (by show W.heap.size≤W.heap.size+1;omega) (.slice j3 L2.length jZ)).setCell (p:=⟨W.heap.size+1,3,none⟩) (by show W.heap.size≤W.heap.size+1;omega) (.int .i64 x3)).setCell (p:=⟨W.heap.size+1,4,none⟩) (by show W.heap.size≤W.heap.size+1;omega) (.slice nA L3.length nu)).setCell (p:=⟨W.heap.size+1,5,none⟩) (by show W.heap.size≤W.heap.size+1;omega) (.slice mg L4.length l9)).setCell (p:=⟨W.heap.size+1,6,none⟩) (by show W.heap.size≤W.heap.size+1;omega) (.slice Qe L5.length Qd)).setCell (p:=⟨W.heap.size+1,7,none⟩) (by show W.heap.size≤W.heap.size+1;omega) (.int .i64 x7))⟩
 have hoff:=(((((((((((Off.refl (fun x=>x<W.heap.size+3) w4).setCell (p:=⟨W.heap.size+1+1,6,none⟩) (by show W.heap.size+1+1<W.heap.size+3;omega) (.slice Qe L5.length Qd)).setCell (p:=⟨W.heap.size+1+1,7,none⟩) (by show W.heap.size+1+1<W.heap.size+3;omega) (.int .i64 x7)).setCell (p:=⟨W.heap.size+1,0,none⟩) (by show W.heap.size+1<W.heap.size+3;omega) (.slice fu L0.length fq)).setCell (p:=⟨W.heap.size+1,1,none⟩) (by show W.heap.size+1<W.heap.size+3;omega) (.slice iJ L1.length iI)).setCell (p:=⟨W.heap.size+1,2,none⟩) (by show W.heap.size+1<W.heap.size+3;omega) (.slice j3 L2.length jZ)).setCell (p:=⟨W.heap.size+1,3,none⟩) (by show W.heap.size+1<W.heap.size+3;omega) (.int .i64 x3)).setCell (p:=⟨W.heap.size+1,4,none⟩) (by show W.heap.size+1<W.heap.size+3;omega) (.slice nA L3.length nu)).setCell (p:=⟨W.heap.size+1,5,none⟩) (by show W.heap.size+1<W.heap.size+3;omega) (.slice mg L4.length l9)).setCell (p:=⟨W.heap.size+1,6,none⟩) (by show W.heap.size+1<W.heap.size+3;omega) (.slice Qe L5.length Qd)).setCell (p:=⟨W.heap.size+1,7,none⟩) (by show W.heap.size+1<W.heap.size+3;omega) (.int .i64 x7))
 have hsz:=hoff.size
 exact yh (fun k hk=>⟨by have:=(dR.out k hk).1;omega,by have:=(dR.out k hk).2;omega⟩) (fun k hk=>⟨by have:=(gQ.out k hk).1;omega,by have:=(gQ.out k hk).2;omega⟩) (fun k hk=>⟨by have:=(iZ.out k hk).1;omega,by have:=(iZ.out k hk).2;omega⟩) (fun k hk=>⟨by have:=(nO.out k hk).1;omega,by have:=(nO.out k hk).2;omega⟩) (fun k hk=>⟨by have:=(vY.out k hk).1;omega,by have:=(vY.out k hk).2;omega⟩) (fun k hk=>⟨by have:=(Nk.out k hk).1;omega,by have:=(Nk.out k hk).2;omega⟩) Xk.out Xj.out (fun k h h'=>by have h1:=(yN.out k h).2;have h2:=UG.out k h';omega) (fun k h h'=>by have h1:=(yN.out k h).2;have h2:=Nl.out k h';omega) (fun k h h'=>by have h1:=(yN.out k h).2;have h2:=GU.out k h';omega) Xi.out (fun k h h'=>by have h1:=(GL.out k h).2;have h2:=UG.out k h';omega) (fun k h h'=>by have h1:=(GL.out k h).2;have h2:=Nl.out k h';omega) (fun k h h'=>by have h1:=(GL.out k h).2;have h2:=GU.out k h';omega) (fun k h h'=>by have h1:=(Nj.out k h).2;have h2:=UG.out k h';omega) (fun k h h'=>by have h1:=(Nj.out k h).2;have h2:=Nl.out k h';omega) (fun k h h'=>by have h1:=(Nj.out k h).2;have h2:=GU.out k h';omega) (fun k h h'=>by have h1:=(abh.out k h).2;have h2:=Nl.out k h';omega) (fun k h h'=>by have h1:=(abh.out k h).2;have h2:=GU.out k h';omega) (fun k h h'=>by have h1:=(ad9.out k h).2;have h2:=GU.out k h';omega) (kN.out.keep (aZ au) (fun k hk=>hoff.block k (dR.out k hk).2 (by have:=(dR.out k hk).1;omega))) (qV.out.keep aG (fun k hk=>hoff.block k (gQ.out k hk).2 (by have:=(gQ.out k hk).1;omega))) (vX.out.keep aC (fun k hk=>hoff.block k (iZ.out k hk).2 (by have:=(iZ.out k hk).1;omega))) (GQ.out.keep aK (fun k hk=>hoff.block k (nO.out k hk).2 (by have:=(nO.out k hk).1;omega))) (UC.out.keep aA (fun k hk=>hoff.block k (vY.out k hk).2 (by have:=(vY.out k hk).1;omega))) (aea.out.keep aU (fun k hk=>hoff.block k (Nk.out k hk).2 (by have:=(Nk.out k hk).1;omega)))
theorem eq_Yard {L0:List (List (ay))}{L1:List (bA)}{L2:List (aX)}{x3:Int}{L3:List (aP)}{L4:List (aF)}{L5:List (bI)}{x7:Int}{a0:Option Addr}{c0:Nat}{a1:Option Addr}{c1:Nat}{a2:Option Addr}{c2:Nat}{a3:Option Addr}{c3:Nat}{a4:Option Addr}{c4:Nat}{a5:Option Addr}{c5:Nat}{a0':Option Addr}{c0':Nat}{a1':Option Addr}{c1':Nat}{Cx:Option Addr}{c2':Nat}{a3':Option Addr}{c3':Nat}{a4':Option Addr}{JZ:Nat}{J2:Option Addr}{JY:Nat}{W:World}(dP:aJ (Sl av) W W.heap.size L0 a0 c0)(gN:aJ aT W W.heap.size L1 a1 c1)(gM:aJ aN W W.heap.size L2 a2 c2)(ko:aJ aL W W.heap.size L3 a3 c3)(kg:aJ aI W W.heap.size L4 a4 c4)(j6:aJ bC W W.heap.size L5 a5 c5)(nL:aJ (Sl av) W W.heap.size L0 a0' c0')(yK:aJ aT W W.heap.size L1 a1' c1')(yJ:aJ aN W W.heap.size L2 Cx c2')(GH:aJ aL W W.heap.size L3 a3' c3')(GD:aJ aI W W.heap.size L4 a4' JZ)(GA:aJ bC W W.heap.size L5 J2 JY):Calls Tryz.prog 13 #[.agg #[.slice a0 L0.length c0,.slice a1 L1.length c1,.slice a2 L2.length c2,.int .i64 x3,.slice a3 L3.length c3,.slice a4 L4.length c4,.slice a5 L5.length c5,.int .i64 x7],.agg #[.slice a0' L0.length c0',.slice a1' L1.length c1',.slice Cx L2.length c2',.int .i64 x3,.slice a3' L3.length c3',.slice a4' L4.length JZ,.slice J2 L5.length JY,.int .i64 x7]] W (sS true W):=by
 have jJ:=ak dP
 have vZ:=ak nL
 have pJ:=ak gN
 have GX:=ak yK
 have pI:=ak gM
 have GV:=ak yJ
 have Aq:=ak ko
 have UM:=ak GH
 have Ap:=ak kg
 have UL:=ak GD
 have Ao:=ak j6
 have UK:=ak GA
 clear dP nL gN yK gM yJ ko GH kg GD j6 GA
 have HB0:=ak (show Below W.heap.size W ((W.alloc (.cells #[.slice a0 L0.length c0,.slice a1 L1.length c1,.slice a2 L2.length c2,.int .i64 x3,.slice a3 L3.length c3,.slice a4 L4.length c4,.slice a5 L5.length c5,.int .i64 x7] 44)).alloc (.cells #[.slice a0' L0.length c0',.slice a1' L1.length c1',.slice Cx L2.length c2',.int .i64 x3,.slice a3' L3.length c3',.slice a4' L4.length JZ,.slice J2 L5.length JY,.int .i64 x7] 44)) from ((aW _ _).alloc (bK _) _).alloc (by simp) _)
 have hP:=(aO.new W 44 #[.slice a0 L0.length c0,.slice a1 L1.length c1,.slice a2 L2.length c2,.int .i64 x3,.slice a3 L3.length c3,.slice a4 L4.length c4,.slice a5 L5.length c5,.int .i64 x7]).alloc (.cells #[.slice a0' L0.length c0',.slice a1' L1.length c1',.slice Cx L2.length c2',.int .i64 x3,.slice a3' L3.length c3',.slice a4' L4.length JZ,.slice J2 L5.length JY,.int .i64 x7] 44)
 have hQ:=aO.new (W.alloc (.cells #[.slice a0 L0.length c0,.slice a1 L1.length c1,.slice a2 L2.length c2,.int .i64 x3,.slice a3 L3.length c3,.slice a4 L4.length c4,.slice a5 L5.length c5,.int .i64 x7] 44)) 44 #[.slice a0' L0.length c0',.slice a1' L1.length c1',.slice Cx L2.length c2',.int .i64 x3,.slice a3' L3.length c3',.slice a4' L4.length JZ,.slice J2 L5.length JY,.int .i64 x7]
 simp only [World.size_alloc] at hP hQ
 have gY:=ak hP
 have Dp:=ak hQ
 have hz0:W.heap.size≤((W.alloc (.cells #[.slice a0 L0.length c0,.slice a1 L1.length c1,.slice a2 L2.length c2,.int .i64 x3,.slice a3 L3.length c3,.slice a4 L4.length c4,.slice a5 L5.length c5,.int .i64 x7] 44)).alloc (.cells #[.slice a0' L0.length c0',.slice a1' L1.length c1',.slice Cx L2.length c2',.int .i64 x3,.slice a3' L3.length c3',.slice a4' L4.length JZ,.slice J2 L5.length JY,.int .i64 x7] 44)).heap.size:=HB0.out.size
 clear hP hQ
 go_enter Tryz.func13,Tryz.ntmps13
 go_wp2_with fail
 refine (eq_Config ((jJ.out.below (aZ au) HB0.out).more (aZ au) hz0) ((pJ.out.below aG HB0.out).more aG hz0) ((pI.out.below aC HB0.out).more aC hz0) ((vZ.out.below (aZ au) HB0.out).more (aZ au) hz0) ((GX.out.below aG HB0.out).more aG hz0) ((GV.out.below aC HB0.out).more aC hz0)).mono ?_
 intro e w1 h
 obtain ⟨rfl,hb⟩:=bU h
 have cZ:=ak (gY.out.call hb)
 have nJ:=ak (Dp.out.call hb)
 have HB1:=ak (HB0.out.trans (hb.mono hz0))
 have hz1:W.heap.size≤w1.heap.size:=HB1.out.size
 clear h hb
 have zH:=cZ.out.at_ 4 rfl
 have Gj:=cZ.out.at_ 5 rfl
 have Gi:=cZ.out.at_ 6 rfl
 have Kh:=cZ.out.at_ 7 rfl
 have SB:=nJ.out.at_ 4 rfl
 have q1_5:=nJ.out.at_ 5 rfl
 have q1_6:=nJ.out.at_ 6 rfl
 have q1_7:=nJ.out.at_ 7 rfl
 go_wp2_with fail
 refine (eq_NodeS ((Aq.out.below aK HB1.out).more aK hz1) ((UM.out.below aK HB1.out).more aK hz1)).mono ?_
 intro e w2 h
 obtain ⟨rfl,hb⟩:=bU h
 have iD:=ak (cZ.out.call hb)
 have xH:=ak (nJ.out.call hb)
 have HB2:=ak (HB1.out.trans (hb.mono hz1))
 have hz2:W.heap.size≤w2.heap.size:=HB2.out.size
 clear h hb
 clear zH SB Gj q1_5 Gi q1_6 Kh q1_7
 have PI:=iD.out.at_ 5 rfl
 have PG:=iD.out.at_ 6 rfl
 have SG:=iD.out.at_ 7 rfl
 have q2_5:=xH.out.at_ 5 rfl
 have q2_6:=xH.out.at_ 6 rfl
 have q2_7:=xH.out.at_ 7 rfl
 go_wp2_with fail
 refine (eq_TaskS ((Ap.out.below aA HB2.out).more aA hz2) ((UL.out.below aA HB2.out).more aA hz2)).mono ?_
 intro e w3 h
 obtain ⟨rfl,hb⟩:=bU h
 have iG:=ak (iD.out.call hb)
 have HQ3:=ak (xH.out.call hb)
 have HB3:=ak (HB2.out.trans (hb.mono hz2))
 have hz3:W.heap.size≤w3.heap.size:=HB3.out.size
 clear h hb
 clear PI q2_5 PG q2_6 SG q2_7
 have Kg:=iG.out.at_ 6 rfl
 have YI:=iG.out.at_ 7 rfl
 have q3_6:=HQ3.out.at_ 6 rfl
 have q3_7:=HQ3.out.at_ 7 rfl
 go_wp2_with fail
 refine (eq_UseS ((Ao.out.below aU HB3.out).more aU hz3) ((UK.out.below aU HB3.out).more aU hz3)).mono ?_
 intro e w4 h
 obtain ⟨rfl,hb⟩:=bU h
 have j5:=ak (iG.out.call hb)
 have HQ4:=ak (HQ3.out.call hb)
 have jL:=ak (HB3.out.trans (hb.mono hz3))
 have lW:W.heap.size≤w4.heap.size:=jL.out.size
 clear h hb
 clear Kg q3_6 YI q3_7
 have p4_7:=j5.out.at_ 7 rfl
 have q4_7:=HQ4.out.at_ 7 rfl
 go_wp2
 all_goals
  go_ret
  exact ⟨rfl,jL.out⟩
theorem eq_YardOut {L0:List (List (ay))}{L1:List (bA)}{L2:List (aX)}{x3:Int}{L3:List (aP)}{L4:List (aF)}{L5:List (bI)}{x7:Int}{x8:Int}{x9:Int}{a0:Option Addr}{c0:Nat}{a1:Option Addr}{c1:Nat}{a2:Option Addr}{c2:Nat}{a3:Option Addr}{c3:Nat}{a4:Option Addr}{c4:Nat}{a5:Option Addr}{c5:Nat}{a0':Option Addr}{c0':Nat}{a1':Option Addr}{c1':Nat}{Cx:Option Addr}{c2':Nat}{a3':Option Addr}{c3':Nat}{a4':Option Addr}{JZ:Nat}{J2:Option Addr}{JY:Nat}{W:World}(dP:aJ (Sl av) W W.heap.size L0 a0 c0)(gN:aJ aT W W.heap.size L1 a1 c1)(gM:aJ aN W W.heap.size L2 a2 c2)(ko:aJ aL W W.heap.size L3 a3 c3)(kg:aJ aI W W.heap.size L4 a4 c4)(j6:aJ bC W W.heap.size L5 a5 c5)(nL:aJ (Sl av) W W.heap.size L0 a0' c0')(yK:aJ aT W W.heap.size L1 a1' c1')(yJ:aJ aN W W.heap.size L2 Cx c2')(GH:aJ aL W W.heap.size L3 a3' c3')(GD:aJ aI W W.heap.size L4 a4' JZ)(GA:aJ bC W W.heap.size L5 J2 JY):Calls Tryz.prog 12 #[.agg #[.slice a0 L0.length c0,.slice a1 L1.length c1,.slice a2 L2.length c2,.int .i64 x3,.slice a3 L3.length c3,.slice a4 L4.length c4,.slice a5 L5.length c5,.int .i64 x7,.int .i64 x8,.int .i64 x9],.agg #[.slice a0' L0.length c0',.slice a1' L1.length c1',.slice Cx L2.length c2',.int .i64 x3,.slice a3' L3.length c3',.slice a4' L4.length JZ,.slice J2 L5.length JY,.int .i64 x7,.int .i64 x8,.int .i64 x9]] W (sS true W):=by
 have jJ:=ak dP
 have vZ:=ak nL
 have pJ:=ak gN
 have GX:=ak yK
 have pI:=ak gM
 have GV:=ak yJ
 have Aq:=ak ko
 have UM:=ak GH
 have Ap:=ak kg
 have UL:=ak GD
 have Ao:=ak j6
 have UK:=ak GA
 clear dP nL gN yK gM yJ ko GH kg GD j6 GA
 have HB0:=ak (show Below W.heap.size W ((W.alloc (.cells #[.slice a0 L0.length c0,.slice a1 L1.length c1,.slice a2 L2.length c2,.int .i64 x3,.slice a3 L3.length c3,.slice a4 L4.length c4,.slice a5 L5.length c5,.int .i64 x7,.int .i64 x8,.int .i64 x9] 46)).alloc (.cells #[.slice a0' L0.length c0',.slice a1' L1.length c1',.slice Cx L2.length c2',.int .i64 x3,.slice a3' L3.length c3',.slice a4' L4.length JZ,.slice J2 L5.length JY,.int .i64 x7,.int .i64 x8,.int .i64 x9] 46)) from ((aW _ _).alloc (bK _) _).alloc (by simp) _)
 have hP:=(aO.new W 46 #[.slice a0 L0.length c0,.slice a1 L1.length c1,.slice a2 L2.length c2,.int .i64 x3,.slice a3 L3.length c3,.slice a4 L4.length c4,.slice a5 L5.length c5,.int .i64 x7,.int .i64 x8,.int .i64 x9]).alloc (.cells #[.slice a0' L0.length c0',.slice a1' L1.length c1',.slice Cx L2.length c2',.int .i64 x3,.slice a3' L3.length c3',.slice a4' L4.length JZ,.slice J2 L5.length JY,.int .i64 x7,.int .i64 x8,.int .i64 x9] 46)
 have hQ:=aO.new (W.alloc (.cells #[.slice a0 L0.length c0,.slice a1 L1.length c1,.slice a2 L2.length c2,.int .i64 x3,.slice a3 L3.length c3,.slice a4 L4.length c4,.slice a5 L5.length c5,.int .i64 x7,.int .i64 x8,.int .i64 x9] 46)) 46 #[.slice a0' L0.length c0',.slice a1' L1.length c1',.slice Cx L2.length c2',.int .i64 x3,.slice a3' L3.length c3',.slice a4' L4.length JZ,.slice J2 L5.length JY,.int .i64 x7,.int .i64 x8,.int .i64 x9]
 simp only [World.size_alloc] at hP hQ
 have gY:=ak hP
 have Dp:=ak hQ
 have hz0:W.heap.size≤((W.alloc (.cells #[.slice a0 L0.length c0,.slice a1 L1.length c1,.slice a2 L2.length c2,.int .i64 x3,.slice a3 L3.length c3,.slice a4 L4.length c4,.slice a5 L5.length c5,.int .i64 x7,.int .i64 x8,.int .i64 x9] 46)).alloc (.cells #[.slice a0' L0.length c0',.slice a1' L1.length c1',.slice Cx L2.length c2',.int .i64 x3,.slice a3' L3.length c3',.slice a4' L4.length JZ,.slice J2 L5.length JY,.int .i64 x7,.int .i64 x8,.int .i64 x9] 46)).heap.size:=HB0.out.size
 clear hP hQ
 go_enter Tryz.func12,Tryz.ntmps12
 go_wp2_with fail
 refine (eq_Yard ((jJ.out.below (aZ au) HB0.out).more (aZ au) hz0) ((pJ.out.below aG HB0.out).more aG hz0) ((pI.out.below aC HB0.out).more aC hz0) ((Aq.out.below aK HB0.out).more aK hz0) ((Ap.out.below aA HB0.out).more aA hz0) ((Ao.out.below aU HB0.out).more aU hz0) ((vZ.out.below (aZ au) HB0.out).more (aZ au) hz0) ((GX.out.below aG HB0.out).more aG hz0) ((GV.out.below aC HB0.out).more aC hz0) ((UM.out.below aK HB0.out).more aK hz0) ((UL.out.below aA HB0.out).more aA hz0) ((UK.out.below aU HB0.out).more aU hz0)).mono ?_
 intro e w1 h
 obtain ⟨rfl,hb⟩:=bU h
 have cZ:=ak (gY.out.call hb)
 have nJ:=ak (Dp.out.call hb)
 have HB1:=ak (HB0.out.trans (hb.mono hz0))
 have hz1:W.heap.size≤w1.heap.size:=HB1.out.size
 clear h hb
 have YL:=cZ.out.at_ 8 rfl
 have YK:=cZ.out.at_ 9 rfl
 have q1_8:=nJ.out.at_ 8 rfl
 have q1_9:=nJ.out.at_ 9 rfl
 go_wp2
 all_goals
  go_ret
  exact ⟨rfl,HB1.out⟩
theorem wM {L0:List (List (ay))}{L1:List (bA)}{L2:List (aX)}{x3:Int}{L3:List (aP)}{L4:List (aF)}{L5:List (bI)}{x7:Int}:bW.sz ((L0,L1,L2,x3),L3,L4,L5,x7)=((cu).sz (L0,L1,L2,x3))+(((Sl aL)).sz L3)+(((Sl aI)).sz L4)+(((Sl bC)).sz L5):=by
 simp only [bW,Pr,I,Bo,atom];omega
theorem ZB {L0:List (List (ay))}{L1:List (bA)}{L2:List (aX)}{x3:Int}{L3:List (aP)}{L4:List (aF)}{L5:List (bI)}{x7:Int}{a0:Option Addr}{c0:Nat}{a1:Option Addr}{c1:Nat}{a2:Option Addr}{c2:Nat}{a3:Option Addr}{c3:Nat}{a4:Option Addr}{c4:Nat}{a5:Option Addr}{c5:Nat}{W:World}{l:Int}(h0:0≤l)(h1:l≤1048576)(dP:aJ (Sl av) W W.heap.size L0 a0 c0)(gN:aJ aT W W.heap.size L1 a1 c1)(gM:aJ aN W W.heap.size L2 a2 c2)(ko:aJ aL W W.heap.size L3 a3 c3)(kg:aJ aI W W.heap.size L4 a4 c4)(j6:aJ bC W W.heap.size L5 a5 c5):Calls Tryz.prog 7 #[.agg #[.slice a0 L0.length c0,.slice a1 L1.length c1,.slice a2 L2.length c2,.int .i64 x3,.slice a3 L3.length c3,.slice a4 L4.length c4,.slice a5 L5.length c5,.int .i64 x7],.int .i64 l] W (JN l (bW.sz ((L0,L1,L2,x3),L3,L4,L5,x7)) W):=by
 have jJ:=ak dP
 have pJ:=ak gN
 have pI:=ak gM
 have Aq:=ak ko
 have Ap:=ak kg
 have Ao:=ak j6
 clear dP gN gM ko kg j6
 have HD:=ak (wM (L0:=L0) (L1:=L1) (L2:=L2) (x3:=x3) (L3:=L3) (L4:=L4) (L5:=L5) (x7:=x7))
 have HB0:=ak (show Below W.heap.size W (W.alloc (.cells #[.slice a0 L0.length c0,.slice a1 L1.length c1,.slice a2 L2.length c2,.int .i64 x3,.slice a3 L3.length c3,.slice a4 L4.length c4,.slice a5 L5.length c5,.int .i64 x7] 31)) from (aW _ _).alloc (bK _) _)
 have hP:=aO.new W 31 #[.slice a0 L0.length c0,.slice a1 L1.length c1,.slice a2 L2.length c2,.int .i64 x3,.slice a3 L3.length c3,.slice a4 L4.length c4,.slice a5 L5.length c5,.int .i64 x7]
 have gY:=ak hP
 have hz0:W.heap.size≤(W.alloc (.cells #[.slice a0 L0.length c0,.slice a1 L1.length c1,.slice a2 L2.length c2,.int .i64 x3,.slice a3 L3.length c3,.slice a4 L4.length c4,.slice a5 L5.length c5,.int .i64 x7] 31)).heap.size:=HB0.out.size
 clear hP
 obtain ⟨s0,hs0⟩:∃ s,s=((cu).sz (L0,L1,L2,x3)):=⟨_,rfl⟩
 have zR:=ak hs0
 rw [←hs0] at HD
 clear hs0
 obtain ⟨s1,hs1⟩:∃ s,s=(((Sl aL)).sz L3):=⟨_,rfl⟩
 have zn:=ak hs1
 rw [←hs1] at HD
 clear hs1
 obtain ⟨s2,hs2⟩:∃ s,s=(((Sl aI)).sz L4):=⟨_,rfl⟩
 have HS2:=ak hs2
 rw [←hs2] at HD
 clear hs2
 obtain ⟨s3,hs3⟩:∃ s,s=(((Sl bC)).sz L5):=⟨_,rfl⟩
 have vH:=ak hs3
 rw [←hs3] at HD
 clear hs3
 go_enter Tryz.func7,Tryz.ntmps7
 go_wp2_with fail
 refine (QH (l:=l) (by omega) (by omega) ((jJ.out.below (aZ au) HB0.out).more (aZ au) hz0) ((pJ.out.below aG HB0.out).more aG hz0) ((pI.out.below aC HB0.out).more aC hz0)).mono ?_
 intro e w1 h
 obtain ⟨rfl,hb⟩:=gD h
 rw [←zR.out]
 have cZ:=ak (gY.out.call hb)
 have HB1:=ak (HB0.out.trans (hb.mono hz0))
 have hz1:W.heap.size≤w1.heap.size:=HB1.out.size
 clear h hb
 have vK:=cZ.out.at_ 0 rfl
 have qK:=cZ.out.at_ 1 rfl
 have ou:=cZ.out.at_ 2 rfl
 have zH:=cZ.out.at_ 4 rfl
 have Gj:=cZ.out.at_ 5 rfl
 have Gi:=cZ.out.at_ 6 rfl
 by_cases hf0:(s0:Int)≤l
 rotate_left
 ·rw [dI hf0]
  have HR:=ak (dI (l:=l) (s:=bW.sz ((L0,L1,L2,x3),L3,L4,L5,x7)) (by rw [HD.out];omega))
  go_wp2
  go_ret
  exact ⟨by first | (rw [HR.out];done) | (rw [HR.out];rfl),HB1.out⟩
 rw [dL hf0]
 have Dw:(0:Int)≤l-(s0:Nat):=by omega
 go_wp2_with fail
 refine (VG (l:=l-(s0:Nat)) (by omega) (by omega) ((Aq.out.below aK HB1.out).more aK hz1)).mono ?_
 intro e w2 h
 obtain ⟨rfl,hb⟩:=gD h
 rw [←zn.out]
 have iD:=ak (cZ.out.call hb)
 have HB2:=ak (HB1.out.trans (hb.mono hz1))
 have hz2:W.heap.size≤w2.heap.size:=HB2.out.size
 clear h hb
 have CP:=iD.out.at_ 0 rfl
 have CO:=iD.out.at_ 1 rfl
 have zG:=iD.out.at_ 2 rfl
 have PK:=iD.out.at_ 4 rfl
 have PI:=iD.out.at_ 5 rfl
 have PG:=iD.out.at_ 6 rfl
 by_cases hf1:(s1:Int)≤l-(s0:Nat)
 rotate_left
 ·rw [dI hf1]
  have HR:=ak (dI (l:=l) (s:=bW.sz ((L0,L1,L2,x3),L3,L4,L5,x7)) (by rw [HD.out];omega))
  go_wp2
  go_ret
  exact ⟨by first | (rw [HR.out];done) | (rw [HR.out];rfl),HB2.out⟩
 rw [dL hf1]
 have aaL:(0:Int)≤l-(s0:Nat)-(s1:Nat):=by omega
 go_wp2_with fail
 refine (VD (l:=l-(s0:Nat)-(s1:Nat)) (by omega) (by omega) ((Ap.out.below aA HB2.out).more aA hz2)).mono ?_
 intro e w3 h
 obtain ⟨rfl,hb⟩:=gD h
 rw [←HS2.out]
 have iG:=ak (iD.out.call hb)
 have HB3:=ak (HB2.out.trans (hb.mono hz2))
 have hz3:W.heap.size≤w3.heap.size:=HB3.out.size
 clear h hb
 have EC:=iG.out.at_ 0 rfl
 have EB:=iG.out.at_ 1 rfl
 have EA:=iG.out.at_ 2 rfl
 have SF:=iG.out.at_ 4 rfl
 have SE:=iG.out.at_ 5 rfl
 have Kg:=iG.out.at_ 6 rfl
 by_cases hf2:(s2:Int)≤l-(s0:Nat)-(s1:Nat)
 rotate_left
 ·rw [dI hf2]
  have HR:=ak (dI (l:=l) (s:=bW.sz ((L0,L1,L2,x3),L3,L4,L5,x7)) (by rw [HD.out];omega))
  go_wp2
  go_ret
  exact ⟨by first | (rw [HR.out];done) | (rw [HR.out];rfl),HB3.out⟩
 rw [dL hf2]
 have Uk:(0:Int)≤l-(s0:Nat)-(s1:Nat)-(s2:Nat):=by omega
 go_wp2_with fail
 refine (ZC (l:=l-(s0:Nat)-(s1:Nat)-(s2:Nat)) (by omega) (by omega) ((Ao.out.below aU HB3.out).more aU hz3)).mono ?_
 intro e w4 h
 obtain ⟨rfl,hb⟩:=gD h
 rw [←vH.out]
 have j5:=ak (iG.out.call hb)
 have jL:=ak (HB3.out.trans (hb.mono hz3))
 have lW:W.heap.size≤w4.heap.size:=jL.out.size
 clear h hb
 have p4_0:=j5.out.at_ 0 rfl
 have p4_1:=j5.out.at_ 1 rfl
 have p4_2:=j5.out.at_ 2 rfl
 have p4_4:=j5.out.at_ 4 rfl
 have p4_5:=j5.out.at_ 5 rfl
 have p4_6:=j5.out.at_ 6 rfl
 by_cases hf3:(s3:Int)≤l-(s0:Nat)-(s1:Nat)-(s2:Nat)
 rotate_left
 ·rw [dI hf3]
  have HR:=ak (dI (l:=l) (s:=bW.sz ((L0,L1,L2,x3),L3,L4,L5,x7)) (by rw [HD.out];omega))
  go_wp2
  go_ret
  exact ⟨by first | (rw [HR.out];done) | (rw [HR.out];rfl),jL.out⟩
 rw [dL hf3]
 have adE:(0:Int)≤l-(s0:Nat)-(s1:Nat)-(s2:Nat)-(s3:Nat):=by omega
 have HR:=ak (dL (l:=l) (s:=bW.sz ((L0,L1,L2,x3),L3,L4,L5,x7)) (by rw [HD.out];omega))
 go_wp2
 go_ret
 exact ⟨by rw [HR.out,HD.out];first | rfl | (simp;done) | (simp;omega),jL.out⟩
theorem yT {w:World}{g:Nat}{v0 v1 v2 v3:Value}{t:TypeId}(h:aO w g t #[.slice none 0 0,.slice none 0 0,.slice none 0 0,.int .i64 0]):aO ((((w.setCell ⟨g,0,none⟩ v0).setCell ⟨g,1,none⟩ v1).setCell ⟨g,2,none⟩ v2).setCell ⟨g,3,none⟩ v3) g t #[v0,v1,v2,v3]:=aO.as ((((h.set 0 v0).set 1 v1).set 2 v2).set 3 v3) (by kernel_rfl)
theorem yS (w:World)(g:Nat)(v0 v1 v2 v3:Value):Off (fun x=>x=g) w ((((w.setCell ⟨g,0,none⟩ v0).setCell ⟨g,1,none⟩ v1).setCell ⟨g,2,none⟩ v2).setCell ⟨g,3,none⟩ v3):=(((((Off.refl (fun x=>x=g) w).setCell (p:=⟨g,0,none⟩) rfl v0).setCell (p:=⟨g,1,none⟩) rfl v1).setCell (p:=⟨g,2,none⟩) rfl v2).setCell (p:=⟨g,3,none⟩) rfl v3)
theorem iQ {w:World}{g:Nat}{v0 v1 v2 v3 v4 v5 v6 v7 v8 v9:Value}{t:TypeId}(h:aO w g t #[.slice none 0 0,.slice none 0 0,.slice none 0 0,.int .i64 0,.slice none 0 0,.slice none 0 0,.slice none 0 0,.int .i64 0,.int .i64 0,.int .i64 0]):aO ((((((((((w.setCell ⟨g,0,none⟩ v0).setCell ⟨g,1,none⟩ v1).setCell ⟨g,2,none⟩ v2).setCell ⟨g,3,none⟩ v3).setCell ⟨g,4,none⟩ v4).setCell ⟨g,5,none⟩ v5).setCell ⟨g,6,none⟩ v6).setCell ⟨g,7,none⟩ v7).setCell ⟨g,8,none⟩ v8).setCell ⟨g,9,none⟩ v9) g t #[v0,v1,v2,v3,v4,v5,v6,v7,v8,v9]:=aO.as ((((((((((h.set 0 v0).set 1 v1).set 2 v2).set 3 v3).set 4 v4).set 5 v5).set 6 v6).set 7 v7).set 8 v8).set 9 v9) (by kernel_rfl)
theorem iP (w:World)(g:Nat)(v0 v1 v2 v3 v4 v5 v6 v7 v8 v9:Value):Off (fun x=>x=g) w ((((((((((w.setCell ⟨g,0,none⟩ v0).setCell ⟨g,1,none⟩ v1).setCell ⟨g,2,none⟩ v2).setCell ⟨g,3,none⟩ v3).setCell ⟨g,4,none⟩ v4).setCell ⟨g,5,none⟩ v5).setCell ⟨g,6,none⟩ v6).setCell ⟨g,7,none⟩ v7).setCell ⟨g,8,none⟩ v8).setCell ⟨g,9,none⟩ v9):=(((((((((((Off.refl (fun x=>x=g) w).setCell (p:=⟨g,0,none⟩) rfl v0).setCell (p:=⟨g,1,none⟩) rfl v1).setCell (p:=⟨g,2,none⟩) rfl v2).setCell (p:=⟨g,3,none⟩) rfl v3).setCell (p:=⟨g,4,none⟩) rfl v4).setCell (p:=⟨g,5,none⟩) rfl v5).setCell (p:=⟨g,6,none⟩) rfl v6).setCell (p:=⟨g,7,none⟩) rfl v7).setCell (p:=⟨g,8,none⟩) rfl v8).setCell (p:=⟨g,9,none⟩) rfl v9)
theorem jA {B:Nat}{S:Nat→Prop}{W w w':World}(h:Below B W w)(ho:Off S w w')(hS:∀ k,S k→B≤k)(hB:B≤w.heap.size):Below B W w':=
 h.trans ⟨ho.os,ho.tape,ho.output,ho.size,fun k hk=>ho.block k (bV hk hB) (fun hs=>by have:=hS k hs;omega)⟩
theorem xU {α:Type}{E:Rp α}(hE:Ok E){w w':World}{T S:Nat→Prop}{L:List α}{a:Option Addr}{c:Nat}(h:bH E w T L a c)(ho:Off S w w')(hT:∀ q,T q→q<w.heap.size∧¬S q):bH E w' T L a c:=h.keep hE fun q hq=>ho.block q (hT q hq).1 (hT q hq).2
end
end aQ
end Go.Proofs.YtlhfiapfncikdaaGreatDoor
