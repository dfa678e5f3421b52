import Derived.Test.YtlhfiapfncikdaaGreatDoorPU1
import Derived.Test.YtlhfiapfncikdaaGreatDoorPU2
set_option linter.unusedVariables false
set_option linter.unusedSimpArgs false
set_option maxRecDepth 100000
set_option maxHeartbeats 3200000
namespace Go.Proofs.YtlhfiapfncikdaaGreatDoor.aP
section
open Go.RowKit bN bP
theorem GH {x0:Int}{x1:Int}{x2:Int}{x3:ByteArray}{x4:Int}{x5:Int}{x6:Int}{x7:Int}{x8:Int}{x9:Int}{x10:Int}{aR:Int}{aW:Int}{L0:List (Int)}:aI.sz ((x0,x1),x2,x3,x4,x5,x6,(x7,x8),x9,x10,aR,aW,L0)=x3.size+((Sl I)).sz L0:=by
 simp only [aI,Pr,I,Bo,St,atom,au];omega
theorem Zd {x0:Int}{x1:Int}{x2:Int}{x3:ByteArray}{x4:Int}{x5:Int}{x6:Int}{x7:Int}{x8:Int}{x9:Int}{x10:Int}{aR:Int}{aW:Int}{L0:List (Int)}{a0:Option Addr}{c0:Nat}{W:World}{l:Int}(h0:0≤l)(h1:l≤1048576)(dP:aH I W W.heap.size L0 a0 c0)(gW:x3.size≤maxLen):Calls Tryz.prog 64 #[.agg #[.int .i64 x0,.int .i64 x1,.int .i64 x2,.string x3,.int .i64 x4,.int .i64 x5,.int .i64 x6,.int .i64 x7,.int .i64 x8,.int .i64 x9,.int .i64 x10,.int .i64 aR,.int .i64 aW,.slice a0 L0.length c0],.int .i64 l] W (Jz l (aI.sz ((x0,x1),x2,x3,x4,x5,x6,(x7,x8),x9,x10,aR,aW,L0)) W):=by
 unfold maxLen at gW
 have jL:=aj dP
 clear dP
 have HD:=aj (GH (x0:=x0) (x1:=x1) (x2:=x2) (x3:=x3) (x4:=x4) (x5:=x5) (x6:=x6) (x7:=x7) (x8:=x8) (x9:=x9) (x10:=x10) (aR:=aR) (aW:=aW) (L0:=L0))
 have HB0:=aj (show Below W.heap.size W (W.alloc (.cells #[.int .i64 x0,.int .i64 x1,.int .i64 x2,.string x3,.int .i64 x4,.int .i64 x5,.int .i64 x6,.int .i64 x7,.int .i64 x8,.int .i64 x9,.int .i64 x10,.int .i64 aR,.int .i64 aW,.slice a0 L0.length c0] 111)) from (aU _ _).alloc (bK _) _)
 have hP:=aN.new W 111 #[.int .i64 x0,.int .i64 x1,.int .i64 x2,.string x3,.int .i64 x4,.int .i64 x5,.int .i64 x6,.int .i64 x7,.int .i64 x8,.int .i64 x9,.int .i64 x10,.int .i64 aR,.int .i64 aW,.slice a0 L0.length c0]
 have iF:=aj hP
 have hz0:W.heap.size≤(W.alloc (.cells #[.int .i64 x0,.int .i64 x1,.int .i64 x2,.string x3,.int .i64 x4,.int .i64 x5,.int .i64 x6,.int .i64 x7,.int .i64 x8,.int .i64 x9,.int .i64 x10,.int .i64 aR,.int .i64 aW,.slice a0 L0.length c0] 111)).heap.size:=HB0.out.size
 clear hP
 by_cases hf:(x3.size:Int)≤l
 rotate_left
 ·have HR:=aj (dF (l:=l) (s:=aI.sz ((x0,x1),x2,x3,x4,x5,x6,(x7,x8),x9,x10,aR,aW,L0)) (by rw [HD.out];omega))
  have hd:decide (l-(x3.size:Int)<0)=true:=eO (by omega)
  go_enter Tryz.func64,Tryz.ntmps64
  go_wp2
  go_ret
  exact ⟨by rw [HR.out];rfl,HB0.out⟩
 have hd:decide (l-(x3.size:Int)<0)=false:=dU (by omega)
 obtain ⟨s0,hs0⟩:∃ s,s=(((Sl I)).sz L0):=⟨_,rfl⟩
 have zD:=aj hs0
 rw [←hs0] at HD
 clear hs0
 go_enter Tryz.func64,Tryz.ntmps64
 go_wp2_with fail
 refine (Qg (l:=l-(x3.size:Int)) (by omega) (by omega) ((jL.out.below cO HB0.out).more cO hz0)).mono ?_
 intro e w1 h
 obtain ⟨rfl,hb⟩:=gB h
 rw [←zD.out]
 have dh:=aj (iF.out.call hb)
 have HB1:=aj (HB0.out.trans (hb.mono hz0))
 clear h hb
 by_cases hf0:(s0:Int)≤l-(x3.size:Int)
 rotate_left
 ·rw [dF hf0]
  have HR:=aj (dF (l:=l) (s:=aI.sz ((x0,x1),x2,x3,x4,x5,x6,(x7,x8),x9,x10,aR,aW,L0)) (by rw [HD.out];omega))
  go_wp2
  go_ret
  exact ⟨by first | (rw [HR.out];done) | (rw [HR.out];rfl),HB1.out⟩
 rw [dJ hf0]
 have Dp:(0:Int)≤l-(x3.size:Int)-(s0:Nat):=by omega
 have HR:=aj (dJ (l:=l) (s:=aI.sz ((x0,x1),x2,x3,x4,x5,x6,(x7,x8),x9,x10,aR,aW,L0)) (by rw [HD.out];omega))
 go_wp2
 go_ret
 exact ⟨by rw [HR.out,HD.out];first | rfl | (simp;done) | (simp;omega),HB1.out⟩
theorem abZ:(aI).size=14:=rfl
theorem Qc (L:List (aG)):(Sl aI).sz L=L.length+bE (aI).sz L:=rfl
theorem Vm {L:List (aG)}{a:Option Addr}{cap:Nat}{W:World}{l:Int}(h0:0≤l)(h1:l≤1048576)(h:aH aI W W.heap.size L a cap):Calls Tryz.prog 26 #[.slice a L.length cap,.int .i64 l] W (Jz l ((Sl aI).sz L) W):=by
 have hn:L.length≤9223372036854775807:=by have h1:=h.1;have h2:=h.2.1;unfold maxLen at h2;omega
 have H:=aj h
 have HD:=aj (Qc L)
 clear h
 by_cases hlen:(L.length:Int)≤l
 ·go_enter Tryz.func26,Tryz.ntmps26
  go_wp2
  go_loopw [5,1] (fun i q wr=>∃ k:Nat,k≤L.length∧i=.int .i64 k∧(L.length:Int)+(bE (aI).sz (L.take k):Nat)≤l∧q=.int .i64 (l-L.length-(bE (aI).sz (L.take k):Nat))∧Below W.heap.size W wr) (fun i _ _=>L.length-(intOf i).toNat)
  case atStart=>exact ⟨0,dX _,rfl,by simpa [bE] using hlen,by simp [bE],aU _ _⟩
  case round=>
   obtain ⟨k,hk,rfl,hfit,rfl,hB⟩:=hrel
   have HB:=aj hB
   have hsz:=hB.size
   have hle:=dn (aI).sz L k
   by_cases hlt:k<L.length
   ·obtain ⟨⟨⟨x0,x1⟩,x2,x3,x4,x5,x6,⟨x7,x8⟩,x9,x10,aR,aW,L0⟩,hx⟩:=aL hlt
    have HS:=aj (fA (aI).sz hx)
    have hle2:=dn (aI).sz L (k+1)
    obtain ⟨g,o,us,rfl,hg,hu,hr⟩:=(H.out.below ay hB).at_ hx
    obtain ⟨a0,c0,rfl,dY,gW⟩:=fu hr
    obtain ⟨e0,e1,e2,e3,e4,e5,e6,e7,e8,e9,e10,e11,e12,e13⟩:=qz (a:=o+k*14) hu rfl
    have fE:=aj (dY.more cO hsz)
    obtain ⟨q,hq⟩:∃ q,q=bE (aI).sz (L.take k):=⟨_,rfl⟩
    obtain ⟨p,hp⟩:∃ p,p=(aI).sz ((x0,x1),x2,x3,x4,x5,x6,(x7,x8),x9,x10,aR,aW,L0):=⟨_,rfl⟩
    rw [←hq] at hfit hle HS
    rw [←hp] at HS
    have HQ:=aj hq
    have HP:=aj hp
    have hi0:(0:Int)≤(k:Int):=eu _
    have hi1:(k:Int)<(L.length:Int):=by omega
    have hgl:g<wr.heap.size:=bV hg hsz
    have hle3:q+p≤bE (aI).sz L:=by rw [←HS.out];exact hle2
    rw [←hq]
    clear hB hx hu dY hq hp hle2
    go_wp2_with fail
    refine (Zd (by omega) (by omega) fE.out gW).mono ?_
    intro e w1 h
    obtain ⟨rfl,hb⟩:=gB h
    rw [←HP.out]
    have HB2:=aj (HB.out.trans (hb.mono hsz))
    clear h hb
    by_cases hf:(p:Int)≤l-L.length-(q:Nat)
    ·rw [dJ hf]
     have hpos:(0:Int)≤l-L.length-(q:Nat)-(p:Nat):=by omega
     go_wp2
     go_roundw
     case rel=>exact ⟨k+1,by omega,by go_num,by rw [HS.out];omega,by rw [HS.out];congr 1;omega,HB2.out⟩
     case measure=>simp [intOf];omega
    ·rw [dF hf]
     have HR:=aj (dF (l:=l) (s:=(Sl aI).sz L) (by rw [HD.out];omega))
     go_wp2
     go_ret
     exact ⟨by first | (rw [HR.out];done) | (rw [HR.out];rfl),HB2.out⟩
   ·obtain rfl:k=L.length:=by omega
    have HR:=aj (dJ (l:=l) (s:=(Sl aI).sz L) (by rw [HD.out];rw [List.take_length] at hfit;omega))
    have HT:=aj (show L.take L.length=L from List.take_length)
    clear hB
    go_wp2
    go_ret
    exact ⟨by rw [HR.out,HD.out,←HT.out];first | rfl | (simp;done) | (simp;omega),HB.out⟩
 ·have HR:=aj (dF (l:=l) (s:=(Sl aI).sz L) (by rw [HD.out];omega))
  go_enter Tryz.func26,Tryz.ntmps26
  go_wp2
  go_ret
  exact ⟨by first | (rw [HR.out];done) | (rw [HR.out];rfl),aU _ _⟩
abbrev dK:Type:=(Bp)×(List (aO))×(List (aG))×(List (bH))×(Int)
def bW:Rp dK:=(Pr bZ (Pr (Sl aJ) (Pr (Sl aI) (Pr (Sl bD) I))))
theorem bS:Ok bW:=(gN bY (gN (aY aK) (gN (aY ay) (gN (aY aT) cO))))
theorem pO {W:World}{B:Nat}{L0:List (List (av))}{L1:List (bq)}{L2:List (aV)}{x3:Int}{L3:List (aO)}{L4:List (aG)}{L5:List (bH)}{x7:Int}{cs:List Value}(h:bW.rd W B ((L0,L1,L2,x3),L3,L4,L5,x7) cs):∃ a0 c0 a1 c1 a2 c2 a3 c3 a4 c4 a5 c5,cs = [.slice a0 L0.length c0,.slice a1 L1.length c1,.slice a2 L2.length c2,.int .i64 x3,.slice a3 L3.length c3,.slice a4 L4.length c4,.slice a5 L5.length c5,.int .i64 x7]∧aH (Sl au) W B L0 a0 c0∧aH aS W B L1 a1 c1∧aH aM W B L2 a2 c2∧aH aJ W B L3 a3 c3∧aH aI W B L4 a4 c4∧aH bD W B L5 a5 c5:=by
 obtain ⟨u1,v1,rfl,h1,g1⟩:=h
 obtain ⟨u2,v2,rfl,h2,g2⟩:=h1
 obtain ⟨a0,c0,rfl,dY⟩:=h2
 obtain ⟨u3,v3,rfl,h3,g3⟩:=g2
 obtain ⟨a1,c1,rfl,lV⟩:=h3
 obtain ⟨u4,v4,rfl,h4,g4⟩:=g3
 obtain ⟨a2,c2,rfl,lU⟩:=h4
 obtain rfl:v4 = [_]:=g4
 obtain ⟨u5,v5,rfl,h5,g5⟩:=g1
 obtain ⟨a3,c3,rfl,og⟩:=h5
 obtain ⟨u6,v6,rfl,h6,g6⟩:=g5
 obtain ⟨a4,c4,rfl,nZ⟩:=h6
 obtain ⟨u7,v7,rfl,h7,g7⟩:=g6
 obtain ⟨a5,c5,rfl,nY⟩:=h7
 obtain rfl:v7 = [_]:=g7
 exact ⟨a0,c0,a1,c1,a2,c2,a3,c3,a4,c4,a5,c5,rfl,dY,lV,lU,og,nZ,nY⟩
theorem xQ {W:World}{S:Nat→Prop}{L0:List (List (av))}{L1:List (bq)}{L2:List (aV)}{x3:Int}{L3:List (aO)}{L4:List (aG)}{L5:List (bH)}{x7:Int}{a0:Option Addr}{c0:Nat}{a1:Option Addr}{c1:Nat}{a2:Option Addr}{c2:Nat}{a3:Option Addr}{c3:Nat}{a4:Option Addr}{c4:Nat}{a5:Option Addr}{c5:Nat}{T0:Nat→Prop}{T1:Nat→Prop}{T2:Nat→Prop}{T3:Nat→Prop}{T4:Nat→Prop}{T5:Nat→Prop}(hs0:∀ k,T0 k→S k)(hs1:∀ k,T1 k→S k)(hs2:∀ k,T2 k→S k)(hs3:∀ k,T3 k→S k)(hs4:∀ k,T4 k→S k)(hs5:∀ k,T5 k→S k)(jP:∀ k,T0 k→¬T1 k)(jO:∀ k,T0 k→¬T2 k)(mG:∀ k,T0 k→¬T3 k)(mF:∀ k,T0 k→¬T4 k)(mE:∀ k,T0 k→¬T5 k)(jN:∀ k,T1 k→¬T2 k)(mD:∀ k,T1 k→¬T3 k)(mq:∀ k,T1 k→¬T4 k)(mo:∀ k,T1 k→¬T5 k)(mh:∀ k,T2 k→¬T3 k)(mg:∀ k,T2 k→¬T4 k)(l9:∀ k,T2 k→¬T5 k)(l8:∀ k,T3 k→¬T4 k)(l7:∀ k,T3 k→¬T5 k)(lZ:∀ k,T4 k→¬T5 k)(dP:bG (Sl au) W T0 L0 a0 c0)(gM:bG aS W T1 L1 a1 c1)(gL:bG aM W T2 L2 a2 c2)(ku:bG aJ W T3 L3 a3 c3)(kr:bG aI W T4 L4 a4 c4)(ko:bG bD W T5 L5 a5 c5):bW.ow W S ((L0,L1,L2,x3),L3,L4,L5,x7) [.slice a0 L0.length c0,.slice a1 L1.length c1,.slice a2 L2.length c2,.int .i64 x3,.slice a3 L3.length c3,.slice a4 L4.length c4,.slice a5 L5.length c5,.int .i64 x7]:=⟨[.slice a0 L0.length c0,.slice a1 L1.length c1,.slice a2 L2.length c2,.int .i64 x3],[.slice a3 L3.length c3,.slice a4 L4.length c4,.slice a5 L5.length c5,.int .i64 x7],(fun k=>T0 k∨T1 k∨T2 k),(fun k=>T3 k∨T4 k∨T5 k),rfl,(fun k h=>by rcases h with h | h | h <;> first | exact hs0 k h | exact hs1 k h | exact hs2 k h),(fun k h=>by rcases h with h | h | h <;> first | exact hs3 k h | exact hs4 k h | exact hs5 k h),(fun k h h'=>by rcases h with h | h | h <;> rcases h' with h' | h' | h' <;> first | exact mG k h h' | exact mF k h h' | exact mE k h h' | exact mD k h h' | exact mq k h h' | exact mo k h h' | exact mh k h h' | exact mg k h h' | exact l9 k h h'),⟨[.slice a0 L0.length c0],[.slice a1 L1.length c1,.slice a2 L2.length c2,.int .i64 x3],T0,(fun k=>T1 k∨T2 k),rfl,(fun k h=>.inl h),(fun k h=>by rcases h with h | h <;> first | exact .inr (.inl h) | exact .inr (.inr (h))),(fun k h h'=>by rcases h' with h' | h' <;> first | exact jP k h h' | exact jO k h h'),⟨a0,c0,rfl,dP⟩,⟨[.slice a1 L1.length c1],[.slice a2 L2.length c2,.int .i64 x3],T1,T2,rfl,(fun k h=>.inl h),(fun k h=>.inr (h)),jN,⟨a1,c1,rfl,gM⟩,⟨[.slice a2 L2.length c2],[.int .i64 x3],T2,(fun _=>False),rfl,(fun k h=>h),(fun k h=>h.elim),(fun k h h'=>h'.elim),⟨a2,c2,rfl,gL⟩,rfl⟩⟩⟩,⟨[.slice a3 L3.length c3],[.slice a4 L4.length c4,.slice a5 L5.length c5,.int .i64 x7],T3,(fun k=>T4 k∨T5 k),rfl,(fun k h=>.inl h),(fun k h=>by rcases h with h | h <;> first | exact .inr (.inl h) | exact .inr (.inr (h))),(fun k h h'=>by rcases h' with h' | h' <;> first | exact l8 k h h' | exact l7 k h h'),⟨a3,c3,rfl,ku⟩,⟨[.slice a4 L4.length c4],[.slice a5 L5.length c5,.int .i64 x7],T4,T5,rfl,(fun k h=>.inl h),(fun k h=>.inr (h)),lZ,⟨a4,c4,rfl,kr⟩,⟨[.slice a5 L5.length c5],[.int .i64 x7],T5,(fun _=>False),rfl,(fun k h=>h),(fun k h=>h.elim),(fun k h h'=>h'.elim),⟨a5,c5,rfl,ko⟩,rfl⟩⟩⟩⟩
theorem EK {W:World}{S:Nat→Prop}{L0:List (List (av))}{L1:List (bq)}{L2:List (aV)}{x3:Int}{L3:List (aO)}{L4:List (aG)}{L5:List (bH)}{x7:Int}{cs:List Value}(h:bW.ow W S ((L0,L1,L2,x3),L3,L4,L5,x7) cs):∃ a0 c0 a1 c1 a2 c2 a3 c3 a4 c4 a5 c5,∃ T0 T1 T2 T3 T4 T5:Nat→Prop,cs = [.slice a0 L0.length c0,.slice a1 L1.length c1,.slice a2 L2.length c2,.int .i64 x3,.slice a3 L3.length c3,.slice a4 L4.length c4,.slice a5 L5.length c5,.int .i64 x7]∧(∀ k,T0 k→S k)∧(∀ k,T1 k→S k)∧(∀ k,T2 k→S k)∧(∀ k,T3 k→S k)∧(∀ k,T4 k→S k)∧(∀ k,T5 k→S k)∧(∀ k,T0 k→¬T1 k)∧(∀ k,T0 k→¬T2 k)∧(∀ k,T0 k→¬T3 k)∧(∀ k,T0 k→¬T4 k)∧(∀ k,T0 k→¬T5 k)∧(∀ k,T1 k→¬T2 k)∧(∀ k,T1 k→¬T3 k)∧(∀ k,T1 k→¬T4 k)∧(∀ k,T1 k→¬T5 k)∧(∀ k,T2 k→¬T3 k)∧(∀ k,T2 k→¬T4 k)∧(∀ k,T2 k→¬T5 k)∧(∀ k,T3 k→¬T4 k)∧(∀ k,T3 k→¬T5 k)∧(∀ k,T4 k→¬T5 k)∧bG (Sl au) W T0 L0 a0 c0∧bG aS W T1 L1 a1 c1∧bG aM W T2 L2 a2 c2∧bG aJ W T3 L3 a3 c3∧bG aI W T4 L4 a4 c4∧bG bD W T5 L5 a5 c5:=by
 obtain ⟨u1,v1,A1,B1,rfl,sa1,sb1,dd1,h1,g1⟩:=h
 obtain ⟨u2,v2,A2,B2,rfl,JG,El,FB,h2,g2⟩:=h1
 obtain ⟨a0,c0,rfl,dY⟩:=h2
 obtain ⟨u3,v3,A3,B3,rfl,FH,Ej,dd3,h3,g3⟩:=g2
 obtain ⟨a1,c1,rfl,lV⟩:=h3
 obtain ⟨u4,v4,A4,B4,rfl,LY,Xh,dd4,h4,g4⟩:=g3
 obtain ⟨a2,c2,rfl,lU⟩:=h4
 obtain rfl:v4 = [_]:=g4
 obtain ⟨u5,v5,A5,B5,rfl,Rn,RG,dd5,h5,g5⟩:=g1
 obtain ⟨a3,c3,rfl,og⟩:=h5
 obtain ⟨u6,v6,A6,B6,rfl,RH,Ju,dd6,h6,g6⟩:=g5
 obtain ⟨a4,c4,rfl,nZ⟩:=h6
 obtain ⟨u7,v7,A7,B7,rfl,OE,Z4,dd7,h7,g7⟩:=g6
 obtain ⟨a5,c5,rfl,nY⟩:=h7
 obtain rfl:v7 = [_]:=g7
 exact ⟨a0,c0,a1,c1,a2,c2,a3,c3,a4,c4,a5,c5,A2,A3,A4,A5,A6,A7,rfl,fun k h=>sa1 k (JG k (h)),fun k h=>sa1 k (El k (FH k (h))),fun k h=>sa1 k (El k (Ej k (LY k (h)))),fun k h=>sb1 k (Rn k (h)),fun k h=>sb1 k (RG k (RH k (h))),fun k h=>sb1 k (RG k (Ju k (OE k (h)))),fun k h h'=>FB k (h) (FH k (h')),fun k h h'=>FB k (h) (Ej k (LY k (h'))),fun k h h'=>dd1 k (JG k (h)) (Rn k (h')),fun k h h'=>dd1 k (JG k (h)) (RG k (RH k (h'))),fun k h h'=>dd1 k (JG k (h)) (RG k (Ju k (OE k (h')))),fun k h h'=>dd3 k (h) (LY k (h')),fun k h h'=>dd1 k (El k (FH k (h))) (Rn k (h')),fun k h h'=>dd1 k (El k (FH k (h))) (RG k (RH k (h'))),fun k h h'=>dd1 k (El k (FH k (h))) (RG k (Ju k (OE k (h')))),fun k h h'=>dd1 k (El k (Ej k (LY k (h)))) (Rn k (h')),fun k h h'=>dd1 k (El k (Ej k (LY k (h)))) (RG k (RH k (h'))),fun k h h'=>dd1 k (El k (Ej k (LY k (h)))) (RG k (Ju k (OE k (h')))),fun k h h'=>dd5 k (h) (RH k (h')),fun k h h'=>dd5 k (h) (Ju k (OE k (h'))),fun k h h'=>dd6 k (h) (OE k (h')),dY,lV,lU,og,nZ,nY⟩
abbrev dZ:Type:=(dK)×(Int)×(Int)
def cu:Rp dZ:=(Pr bW (Pr I I))
theorem aX:Ok cu:=(gN bS (gN cO cO))
theorem uN {W:World}{B:Nat}{L0:List (List (av))}{L1:List (bq)}{L2:List (aV)}{x3:Int}{L3:List (aO)}{L4:List (aG)}{L5:List (bH)}{x7:Int}{x8:Int}{x9:Int}{cs:List Value}(h:cu.rd W B (((L0,L1,L2,x3),L3,L4,L5,x7),x8,x9) cs):∃ a0 c0 a1 c1 a2 c2 a3 c3 a4 c4 a5 c5,cs = [.slice a0 L0.length c0,.slice a1 L1.length c1,.slice a2 L2.length c2,.int .i64 x3,.slice a3 L3.length c3,.slice a4 L4.length c4,.slice a5 L5.length c5,.int .i64 x7,.int .i64 x8,.int .i64 x9]∧aH (Sl au) W B L0 a0 c0∧aH aS W B L1 a1 c1∧aH aM W B L2 a2 c2∧aH aJ W B L3 a3 c3∧aH aI W B L4 a4 c4∧aH bD W B L5 a5 c5:=by
 obtain ⟨u1,v1,rfl,h1,g1⟩:=h
 obtain ⟨u2,v2,rfl,h2,g2⟩:=h1
 obtain ⟨u3,v3,rfl,h3,g3⟩:=h2
 obtain ⟨a0,c0,rfl,dY⟩:=h3
 obtain ⟨u4,v4,rfl,h4,g4⟩:=g3
 obtain ⟨a1,c1,rfl,lV⟩:=h4
 obtain ⟨u5,v5,rfl,h5,g5⟩:=g4
 obtain ⟨a2,c2,rfl,lU⟩:=h5
 obtain rfl:v5 = [_]:=g5
 obtain ⟨u6,v6,rfl,h6,g6⟩:=g2
 obtain ⟨a3,c3,rfl,og⟩:=h6
 obtain ⟨u7,v7,rfl,h7,g7⟩:=g6
 obtain ⟨a4,c4,rfl,nZ⟩:=h7
 obtain ⟨u8,v8,rfl,h8,g8⟩:=g7
 obtain ⟨a5,c5,rfl,nY⟩:=h8
 obtain rfl:v8 = [_]:=g8
 obtain ⟨u9,v9,rfl,h9,g9⟩:=g1
 obtain rfl:u9 = [_]:=h9
 obtain rfl:v9 = [_]:=g9
 exact ⟨a0,c0,a1,c1,a2,c2,a3,c3,a4,c4,a5,c5,rfl,dY,lV,lU,og,nZ,nY⟩
theorem E9 {W:World}{S:Nat→Prop}{L0:List (List (av))}{L1:List (bq)}{L2:List (aV)}{x3:Int}{L3:List (aO)}{L4:List (aG)}{L5:List (bH)}{x7:Int}{x8:Int}{x9:Int}{a0:Option Addr}{c0:Nat}{a1:Option Addr}{c1:Nat}{a2:Option Addr}{c2:Nat}{a3:Option Addr}{c3:Nat}{a4:Option Addr}{c4:Nat}{a5:Option Addr}{c5:Nat}{T0:Nat→Prop}{T1:Nat→Prop}{T2:Nat→Prop}{T3:Nat→Prop}{T4:Nat→Prop}{T5:Nat→Prop}(hs0:∀ k,T0 k→S k)(hs1:∀ k,T1 k→S k)(hs2:∀ k,T2 k→S k)(hs3:∀ k,T3 k→S k)(hs4:∀ k,T4 k→S k)(hs5:∀ k,T5 k→S k)(jP:∀ k,T0 k→¬T1 k)(jO:∀ k,T0 k→¬T2 k)(mG:∀ k,T0 k→¬T3 k)(mF:∀ k,T0 k→¬T4 k)(mE:∀ k,T0 k→¬T5 k)(jN:∀ k,T1 k→¬T2 k)(mD:∀ k,T1 k→¬T3 k)(mq:∀ k,T1 k→¬T4 k)(mo:∀ k,T1 k→¬T5 k)(mh:∀ k,T2 k→¬T3 k)(mg:∀ k,T2 k→¬T4 k)(l9:∀ k,T2 k→¬T5 k)(l8:∀ k,T3 k→¬T4 k)(l7:∀ k,T3 k→¬T5 k)(lZ:∀ k,T4 k→¬T5 k)(dP:bG (Sl au) W T0 L0 a0 c0)(gM:bG aS W T1 L1 a1 c1)(gL:bG aM W T2 L2 a2 c2)(ku:bG aJ W T3 L3 a3 c3)(kr:bG aI W T4 L4 a4 c4)(ko:bG bD W T5 L5 a5 c5):cu.ow W S (((L0,L1,L2,x3),L3,L4,L5,x7),x8,x9) [.slice a0 L0.length c0,.slice a1 L1.length c1,.slice a2 L2.length c2,.int .i64 x3,.slice a3 L3.length c3,.slice a4 L4.length c4,.slice a5 L5.length c5,.int .i64 x7,.int .i64 x8,.int .i64 x9]:=⟨[.slice a0 L0.length c0,.slice a1 L1.length c1,.slice a2 L2.length c2,.int .i64 x3,.slice a3 L3.length c3,.slice a4 L4.length c4,.slice a5 L5.length c5,.int .i64 x7],[.int .i64 x8,.int .i64 x9],(fun k=>T0 k∨T1 k∨T2 k∨T3 k∨T4 k∨T5 k),(fun _=>False),rfl,(fun k h=>by rcases h with h | h | h | h | h | h <;> first | exact hs0 k h | exact hs1 k h | exact hs2 k h | exact hs3 k h | exact hs4 k h | exact hs5 k h),(fun k h=>h.elim),(fun k h h'=>h'.elim),⟨[.slice a0 L0.length c0,.slice a1 L1.length c1,.slice a2 L2.length c2,.int .i64 x3],[.slice a3 L3.length c3,.slice a4 L4.length c4,.slice a5 L5.length c5,.int .i64 x7],(fun k=>T0 k∨T1 k∨T2 k),(fun k=>T3 k∨T4 k∨T5 k),rfl,(fun k h=>by rcases h with h | h | h <;> first | exact .inl h | exact .inr (.inl h) | exact .inr (.inr (.inl h))),(fun k h=>by rcases h with h | h | h <;> first | exact .inr (.inr (.inr (.inl h))) | exact .inr (.inr (.inr (.inr (.inl h)))) | exact .inr (.inr (.inr (.inr (.inr (h)))))),(fun k h h'=>by rcases h with h | h | h <;> rcases h' with h' | h' | h' <;> first | exact mG k h h' | exact mF k h h' | exact mE k h h' | exact mD k h h' | exact mq k h h' | exact mo k h h' | exact mh k h h' | exact mg k h h' | exact l9 k h h'),⟨[.slice a0 L0.length c0],[.slice a1 L1.length c1,.slice a2 L2.length c2,.int .i64 x3],T0,(fun k=>T1 k∨T2 k),rfl,(fun k h=>.inl h),(fun k h=>by rcases h with h | h <;> first | exact .inr (.inl h) | exact .inr (.inr (h))),(fun k h h'=>by rcases h' with h' | h' <;> first | exact jP k h h' | exact jO k h h'),⟨a0,c0,rfl,dP⟩,⟨[.slice a1 L1.length c1],[.slice a2 L2.length c2,.int .i64 x3],T1,T2,rfl,(fun k h=>.inl h),(fun k h=>.inr (h)),jN,⟨a1,c1,rfl,gM⟩,⟨[.slice a2 L2.length c2],[.int .i64 x3],T2,(fun _=>False),rfl,(fun k h=>h),(fun k h=>h.elim),(fun k h h'=>h'.elim),⟨a2,c2,rfl,gL⟩,rfl⟩⟩⟩,⟨[.slice a3 L3.length c3],[.slice a4 L4.length c4,.slice a5 L5.length c5,.int .i64 x7],T3,(fun k=>T4 k∨T5 k),rfl,(fun k h=>.inl h),(fun k h=>by rcases h with h | h <;> first | exact .inr (.inl h) | exact .inr (.inr (h))),(fun k h h'=>by rcases h' with h' | h' <;> first | exact l8 k h h' | exact l7 k h h'),⟨a3,c3,rfl,ku⟩,⟨[.slice a4 L4.length c4],[.slice a5 L5.length c5,.int .i64 x7],T4,T5,rfl,(fun k h=>.inl h),(fun k h=>.inr (h)),lZ,⟨a4,c4,rfl,kr⟩,⟨[.slice a5 L5.length c5],[.int .i64 x7],T5,(fun _=>False),rfl,(fun k h=>h),(fun k h=>h.elim),(fun k h h'=>h'.elim),⟨a5,c5,rfl,ko⟩,rfl⟩⟩⟩⟩,⟨[.int .i64 x8],[.int .i64 x9],(fun _=>False),(fun _=>False),rfl,(fun k h=>h.elim),(fun k h=>h.elim),(fun k h h'=>h.elim),rfl,rfl⟩⟩
theorem BD {W:World}{S:Nat→Prop}{L0:List (List (av))}{L1:List (bq)}{L2:List (aV)}{x3:Int}{L3:List (aO)}{L4:List (aG)}{L5:List (bH)}{x7:Int}{x8:Int}{x9:Int}{cs:List Value}(h:cu.ow W S (((L0,L1,L2,x3),L3,L4,L5,x7),x8,x9) cs):∃ a0 c0 a1 c1 a2 c2 a3 c3 a4 c4 a5 c5,∃ T0 T1 T2 T3 T4 T5:Nat→Prop,cs = [.slice a0 L0.length c0,.slice a1 L1.length c1,.slice a2 L2.length c2,.int .i64 x3,.slice a3 L3.length c3,.slice a4 L4.length c4,.slice a5 L5.length c5,.int .i64 x7,.int .i64 x8,.int .i64 x9]∧(∀ k,T0 k→S k)∧(∀ k,T1 k→S k)∧(∀ k,T2 k→S k)∧(∀ k,T3 k→S k)∧(∀ k,T4 k→S k)∧(∀ k,T5 k→S k)∧(∀ k,T0 k→¬T1 k)∧(∀ k,T0 k→¬T2 k)∧(∀ k,T0 k→¬T3 k)∧(∀ k,T0 k→¬T4 k)∧(∀ k,T0 k→¬T5 k)∧(∀ k,T1 k→¬T2 k)∧(∀ k,T1 k→¬T3 k)∧(∀ k,T1 k→¬T4 k)∧(∀ k,T1 k→¬T5 k)∧(∀ k,T2 k→¬T3 k)∧(∀ k,T2 k→¬T4 k)∧(∀ k,T2 k→¬T5 k)∧(∀ k,T3 k→¬T4 k)∧(∀ k,T3 k→¬T5 k)∧(∀ k,T4 k→¬T5 k)∧bG (Sl au) W T0 L0 a0 c0∧bG aS W T1 L1 a1 c1∧bG aM W T2 L2 a2 c2∧bG aJ W T3 L3 a3 c3∧bG aI W T4 L4 a4 c4∧bG bD W T5 L5 a5 c5:=by
 obtain ⟨u1,v1,A1,B1,rfl,sa1,sb1,dd1,h1,g1⟩:=h
 obtain ⟨u2,v2,A2,B2,rfl,JG,El,FB,h2,g2⟩:=h1
 obtain ⟨u3,v3,A3,B3,rfl,FH,Ej,dd3,h3,g3⟩:=h2
 obtain ⟨a0,c0,rfl,dY⟩:=h3
 obtain ⟨u4,v4,A4,B4,rfl,LY,Xh,dd4,h4,g4⟩:=g3
 obtain ⟨a1,c1,rfl,lV⟩:=h4
 obtain ⟨u5,v5,A5,B5,rfl,Rn,RG,dd5,h5,g5⟩:=g4
 obtain ⟨a2,c2,rfl,lU⟩:=h5
 obtain rfl:v5 = [_]:=g5
 obtain ⟨u6,v6,A6,B6,rfl,RH,Ju,dd6,h6,g6⟩:=g2
 obtain ⟨a3,c3,rfl,og⟩:=h6
 obtain ⟨u7,v7,A7,B7,rfl,OE,Z4,dd7,h7,g7⟩:=g6
 obtain ⟨a4,c4,rfl,nZ⟩:=h7
 obtain ⟨u8,v8,A8,B8,rfl,sa8,sb8,dd8,h8,g8⟩:=g7
 obtain ⟨a5,c5,rfl,nY⟩:=h8
 obtain rfl:v8 = [_]:=g8
 obtain ⟨u9,v9,A9,B9,rfl,sa9,sb9,dd9,h9,g9⟩:=g1
 obtain rfl:u9 = [_]:=h9
 obtain rfl:v9 = [_]:=g9
 exact ⟨a0,c0,a1,c1,a2,c2,a3,c3,a4,c4,a5,c5,A3,A4,A5,A6,A7,A8,rfl,fun k h=>sa1 k (JG k (FH k (h))),fun k h=>sa1 k (JG k (Ej k (LY k (h)))),fun k h=>sa1 k (JG k (Ej k (Xh k (Rn k (h))))),fun k h=>sa1 k (El k (RH k (h))),fun k h=>sa1 k (El k (Ju k (OE k (h)))),fun k h=>sa1 k (El k (Ju k (Z4 k (sa8 k (h))))),fun k h h'=>dd3 k (h) (LY k (h')),fun k h h'=>dd3 k (h) (Xh k (Rn k (h'))),fun k h h'=>FB k (FH k (h)) (RH k (h')),fun k h h'=>FB k (FH k (h)) (Ju k (OE k (h'))),fun k h h'=>FB k (FH k (h)) (Ju k (Z4 k (sa8 k (h')))),fun k h h'=>dd4 k (h) (Rn k (h')),fun k h h'=>FB k (Ej k (LY k (h))) (RH k (h')),fun k h h'=>FB k (Ej k (LY k (h))) (Ju k (OE k (h'))),fun k h h'=>FB k (Ej k (LY k (h))) (Ju k (Z4 k (sa8 k (h')))),fun k h h'=>FB k (Ej k (Xh k (Rn k (h)))) (RH k (h')),fun k h h'=>FB k (Ej k (Xh k (Rn k (h)))) (Ju k (OE k (h'))),fun k h h'=>FB k (Ej k (Xh k (Rn k (h)))) (Ju k (Z4 k (sa8 k (h')))),fun k h h'=>dd6 k (h) (OE k (h')),fun k h h'=>dd6 k (h) (Z4 k (sa8 k (h'))),fun k h h'=>dd7 k (h) (sa8 k (h')),dY,lV,lU,og,nZ,nY⟩
theorem YV {L0:List (List (av))}{L1:List (bq)}{L2:List (aV)}{x3:Int}{L3:List (aO)}{L4:List (aG)}{L5:List (bH)}{x7:Int}{a0:Option Addr}{c0:Nat}{a1:Option Addr}{c1:Nat}{a2:Option Addr}{c2:Nat}{a3:Option Addr}{c3:Nat}{a4:Option Addr}{c4:Nat}{a5:Option Addr}{c5:Nat}{W:World}(hsz:bW.sz ((L0,L1,L2,x3),L3,L4,L5,x7)≤1048576)(dP:aH (Sl au) W W.heap.size L0 a0 c0)(gM:aH aS W W.heap.size L1 a1 c1)(gL:aH aM W W.heap.size L2 a2 c2)(ku:aH aJ W W.heap.size L3 a3 c3)(kr:aH aI W W.heap.size L4 a4 c4)(ko:aH bD W W.heap.size L5 a5 c5):Calls Tryz.prog 9 #[.agg #[.slice a0 L0.length c0,.slice a1 L1.length c1,.slice a2 L2.length c2,.int .i64 x3,.slice a3 L3.length c3,.slice a4 L4.length c4,.slice a5 L5.length c5,.int .i64 x7]] W (kU bW ((L0,L1,L2,x3),L3,L4,L5,x7) W):=by
 have jL:=aj dP
 have pF:=aj gM
 have pE:=aj gL
 have Ag:=aj ku
 have Af:=aj kr
 have Ae:=aj ko
 have ni:=aj hsz
 clear hsz dP gM gL ku kr ko
 have hP:=((aN.new W 31 #[.slice a0 L0.length c0,.slice a1 L1.length c1,.slice a2 L2.length c2,.int .i64 x3,.slice a3 L3.length c3,.slice a4 L4.length c4,.slice a5 L5.length c5,.int .i64 x7]).alloc (.cells #[.slice none 0 0,.slice none 0 0,.slice none 0 0,.int .i64 0,.slice none 0 0,.slice none 0 0,.slice none 0 0,.int .i64 0] 44)).alloc (.cells #[.slice none 0 0,.slice none 0 0,.slice none 0 0,.int .i64 0,.slice none 0 0,.slice none 0 0,.slice none 0 0,.int .i64 0] 44)
 have hR:=(aN.new (W.alloc (.cells #[.slice a0 L0.length c0,.slice a1 L1.length c1,.slice a2 L2.length c2,.int .i64 x3,.slice a3 L3.length c3,.slice a4 L4.length c4,.slice a5 L5.length c5,.int .i64 x7] 31)) 44 #[.slice none 0 0,.slice none 0 0,.slice none 0 0,.int .i64 0,.slice none 0 0,.slice none 0 0,.slice none 0 0,.int .i64 0]).alloc (.cells #[.slice none 0 0,.slice none 0 0,.slice none 0 0,.int .i64 0,.slice none 0 0,.slice none 0 0,.slice none 0 0,.int .i64 0] 44)
 have hO:=aN.new ((W.alloc (.cells #[.slice a0 L0.length c0,.slice a1 L1.length c1,.slice a2 L2.length c2,.int .i64 x3,.slice a3 L3.length c3,.slice a4 L4.length c4,.slice a5 L5.length c5,.int .i64 x7] 31)).alloc (.cells #[.slice none 0 0,.slice none 0 0,.slice none 0 0,.int .i64 0,.slice none 0 0,.slice none 0 0,.slice none 0 0,.int .i64 0] 44)) 44 #[.slice none 0 0,.slice none 0 0,.slice none 0 0,.int .i64 0,.slice none 0 0,.slice none 0 0,.slice none 0 0,.int .i64 0]
 simp only [World.size_alloc] at hP hR hO
 have HB0:=aj (show Below W.heap.size W (((W.alloc (.cells #[.slice a0 L0.length c0,.slice a1 L1.length c1,.slice a2 L2.length c2,.int .i64 x3,.slice a3 L3.length c3,.slice a4 L4.length c4,.slice a5 L5.length c5,.int .i64 x7] 31)).alloc (.cells #[.slice none 0 0,.slice none 0 0,.slice none 0 0,.int .i64 0,.slice none 0 0,.slice none 0 0,.slice none 0 0,.int .i64 0] 44)).alloc (.cells #[.slice none 0 0,.slice none 0 0,.slice none 0 0,.int .i64 0,.slice none 0 0,.slice none 0 0,.slice none 0 0,.int .i64 0] 44)) from (((aU _ _).alloc (bK _) _).alloc (by simp) _).alloc (by simp;omega) _)
 have hz0:W.heap.size+3≤(((W.alloc (.cells #[.slice a0 L0.length c0,.slice a1 L1.length c1,.slice a2 L2.length c2,.int .i64 x3,.slice a3 L3.length c3,.slice a4 L4.length c4,.slice a5 L5.length c5,.int .i64 x7] 31)).alloc (.cells #[.slice none 0 0,.slice none 0 0,.slice none 0 0,.int .i64 0,.slice none 0 0,.slice none 0 0,.slice none 0 0,.int .i64 0] 44)).alloc (.cells #[.slice none 0 0,.slice none 0 0,.slice none 0 0,.int .i64 0,.slice none 0 0,.slice none 0 0,.slice none 0 0,.int .i64 0] 44)).heap.size:=by simp
 have iF:=aj hP
 have zT:=aj hR
 have yU:=aj hO
 clear hP hR hO
 go_enter Tryz.func9,Tryz.ntmps9
 go_wp2_with fail
 refine (Qa (by have h0:=ni.out;simp only [bW,bZ,Pr,Sl,I,Bo,atom] at h0 ⊢;omega) ((jL.out.below (aY ak) HB0.out).more (aY ak) (by have h0:=hz0;first | omega | (simp;omega))) ((pF.out.below aD HB0.out).more aD (by have h0:=hz0;first | omega | (simp;omega))) ((pE.out.below aB HB0.out).more aB (by have h0:=hz0;first | omega | (simp;omega)))).mono ?_
 intro e w1 h
 obtain ⟨vs,rfl,how,hb⟩:=bX h
 obtain ⟨fq,eZ,iJ,iI,j6,j4,S_L0,S_L1,S_L2,rfl,aaw,aav,aau,Wh,Wd,V9,mH,AV,AU⟩:=rR how
 have hP:aN w1 (W.heap.size) 31 #[.slice a0 L0.length c0,.slice a1 L1.length c1,.slice a2 L2.length c2,.int .i64 x3,.slice a3 L3.length c3,.slice a4 L4.length c4,.slice a5 L5.length c5,.int .i64 x7]:=aN.call iF.out hb
 have hR:aN w1 (W.heap.size+1) 44 #[.slice none 0 0,.slice none 0 0,.slice none 0 0,.int .i64 0,.slice none 0 0,.slice none 0 0,.slice none 0 0,.int .i64 0]:=aN.call zT.out hb
 have hO:aN w1 (W.heap.size+1+1) 44 #[.slice none 0 0,.slice none 0 0,.slice none 0 0,.int .i64 0,.slice none 0 0,.slice none 0 0,.slice none 0 0,.int .i64 0]:=aN.call yU.out hb
 have hz1:W.heap.size+3≤w1.heap.size:=eH hz0 (bQ hb (S:=fun x=>x<W.heap.size+3) (Off.refl (fun x=>x<W.heap.size+3) _))
 have HB1:=aj (Below.trans (B:=W.heap.size) (a:=W) HB0.out (hb.mono (by have h0:=hz0;first | omega | (simp;omega))))
 have kP:=aj mH
 have dS:=aj (fun k hk=>eG hb (m:=W.heap.size+3) (by have h0:=hz0;first | omega | (simp;omega)) k (aaw k hk))
 have yB:=aj (fun k (hk:S_L0 k)=>eG hb (m:=0) (dX _) k (aaw k hk))
 have qP:=aj AV
 have gP:=aj (fun k hk=>eG hb (m:=W.heap.size+3) (by have h0:=hz0;first | omega | (simp;omega)) k (aav k hk))
 have Gt:=aj (fun k (hk:S_L1 k)=>eG hb (m:=0) (dX _) k (aav k hk))
 have vM:=aj AU
 have je:=aj (fun k hk=>eG hb (m:=W.heap.size+3) (by have h0:=hz0;first | omega | (simp;omega)) k (aau k hk))
 have MS:=aj (fun k (hk:S_L2 k)=>eG hb (m:=0) (dX _) k (aau k hk))
 have WW:=aj Wh
 have WV:=aj Wd
 have WU:=aj V9
 have dh:=aj hP
 have HR1:=aj hR
 have rF:=aj hO
 clear h hb hP hR hO how mH AV AU
 obtain ⟨vk,qH,nX,uy,zo,FW,FV,JZ⟩:=dh.out.fV rfl
 obtain ⟨CO,CK,Ev,FX,Si,o1_5,o1_6,o1_7⟩:=rF.out.fV rfl
 obtain ⟨CF,CB,Ep,FT,R7,r1_5,r1_6,r1_7⟩:=HR1.out.fV rfl
 obtain ⟨CV,CU,Ez,Ga,SG,f1_5,f1_6,f1_7⟩:=rF.out.zm
 obtain ⟨CS,CQ,Ey,FZ,SF,g1_5,g1_6,g1_7⟩:=HR1.out.zm
 go_wp2_with fail
 refine (Vi (by have h0:=ni.out;simp only [bW,Pr,Sl,I,Bo,atom] at h0 ⊢;omega) ((Ag.out.below aK ((((HB1.out.setCell (p:=⟨W.heap.size+1+1,0,none⟩) (by show W.heap.size≤W.heap.size+1+1;omega) (.slice fq L0.length eZ)).setCell (p:=⟨W.heap.size+1+1,1,none⟩) (by show W.heap.size≤W.heap.size+1+1;omega) (.slice iJ L1.length iI)).setCell (p:=⟨W.heap.size+1+1,2,none⟩) (by show W.heap.size≤W.heap.size+1+1;omega) (.slice j6 L2.length j4)).setCell (p:=⟨W.heap.size+1+1,3,none⟩) (by show W.heap.size≤W.heap.size+1+1;omega) (.int .i64 x3))).more aK (by have h0:=hz1;first | omega | (simp;omega)))).mono ?_
 intro e w2 h
 obtain ⟨mX,mV,rfl,UZ,hb⟩:=bI h
 have hP:aN w2 (W.heap.size) 31 #[.slice a0 L0.length c0,.slice a1 L1.length c1,.slice a2 L2.length c2,.int .i64 x3,.slice a3 L3.length c3,.slice a4 L4.length c4,.slice a5 L5.length c5,.int .i64 x7]:=aN.call (aN.far (b:=W.heap.size+1+1) (o:=3) (aN.far (b:=W.heap.size+1+1) (o:=2) (aN.far (b:=W.heap.size+1+1) (o:=1) (aN.far (b:=W.heap.size+1+1) (o:=0) dh.out (by omega) (.slice fq L0.length eZ)) (by omega) (.slice iJ L1.length iI)) (by omega) (.slice j6 L2.length j4)) (by omega) (.int .i64 x3)) hb
 have hR:aN w2 (W.heap.size+1) 44 #[.slice none 0 0,.slice none 0 0,.slice none 0 0,.int .i64 0,.slice none 0 0,.slice none 0 0,.slice none 0 0,.int .i64 0]:=aN.call (aN.far (b:=W.heap.size+1+1) (o:=3) (aN.far (b:=W.heap.size+1+1) (o:=2) (aN.far (b:=W.heap.size+1+1) (o:=1) (aN.far (b:=W.heap.size+1+1) (o:=0) HR1.out (by omega) (.slice fq L0.length eZ)) (by omega) (.slice iJ L1.length iI)) (by omega) (.slice j6 L2.length j4)) (by omega) (.int .i64 x3)) hb
 have hO:aN w2 (W.heap.size+1+1) 44 #[.slice fq L0.length eZ,.slice iJ L1.length iI,.slice j6 L2.length j4,.int .i64 x3,.slice none 0 0,.slice none 0 0,.slice none 0 0,.int .i64 0]:=aN.call (aN.set (aN.set (aN.set (aN.set rF.out 0 (.slice fq L0.length eZ)) 1 (.slice iJ L1.length iI)) 2 (.slice j6 L2.length j4)) 3 (.int .i64 x3)) hb
 have hz2:W.heap.size+3≤w2.heap.size:=eH hz1 (bQ hb (S:=fun x=>x<W.heap.size+3) (((((Off.refl (fun x=>x<W.heap.size+3) w1).setCell (p:=⟨W.heap.size+1+1,0,none⟩) (by show W.heap.size+1+1<W.heap.size+3;omega) (.slice fq L0.length eZ)).setCell (p:=⟨W.heap.size+1+1,1,none⟩) (by show W.heap.size+1+1<W.heap.size+3;omega) (.slice iJ L1.length iI)).setCell (p:=⟨W.heap.size+1+1,2,none⟩) (by show W.heap.size+1+1<W.heap.size+3;omega) (.slice j6 L2.length j4)).setCell (p:=⟨W.heap.size+1+1,3,none⟩) (by show W.heap.size+1+1<W.heap.size+3;omega) (.int .i64 x3)))
 have kP:=aj (kP.out.keep (aY ak) (fun k hk=>eP hb (S:=fun x=>x<W.heap.size+3) (((((Off.refl (fun x=>x<W.heap.size+3) w1).setCell (p:=⟨W.heap.size+1+1,0,none⟩) (by show W.heap.size+1+1<W.heap.size+3;omega) (.slice fq L0.length eZ)).setCell (p:=⟨W.heap.size+1+1,1,none⟩) (by show W.heap.size+1+1<W.heap.size+3;omega) (.slice iJ L1.length iI)).setCell (p:=⟨W.heap.size+1+1,2,none⟩) (by show W.heap.size+1+1<W.heap.size+3;omega) (.slice j6 L2.length j4)).setCell (p:=⟨W.heap.size+1+1,3,none⟩) (by show W.heap.size+1+1<W.heap.size+3;omega) (.int .i64 x3)) k (dS.out k hk).2 (by have:=(dS.out k hk).1;omega)))
 have qP:=aj (qP.out.keep aD (fun k hk=>eP hb (S:=fun x=>x<W.heap.size+3) (((((Off.refl (fun x=>x<W.heap.size+3) w1).setCell (p:=⟨W.heap.size+1+1,0,none⟩) (by show W.heap.size+1+1<W.heap.size+3;omega) (.slice fq L0.length eZ)).setCell (p:=⟨W.heap.size+1+1,1,none⟩) (by show W.heap.size+1+1<W.heap.size+3;omega) (.slice iJ L1.length iI)).setCell (p:=⟨W.heap.size+1+1,2,none⟩) (by show W.heap.size+1+1<W.heap.size+3;omega) (.slice j6 L2.length j4)).setCell (p:=⟨W.heap.size+1+1,3,none⟩) (by show W.heap.size+1+1<W.heap.size+3;omega) (.int .i64 x3)) k (gP.out k hk).2 (by have:=(gP.out k hk).1;omega)))
 have vM:=aj (vM.out.keep aB (fun k hk=>eP hb (S:=fun x=>x<W.heap.size+3) (((((Off.refl (fun x=>x<W.heap.size+3) w1).setCell (p:=⟨W.heap.size+1+1,0,none⟩) (by show W.heap.size+1+1<W.heap.size+3;omega) (.slice fq L0.length eZ)).setCell (p:=⟨W.heap.size+1+1,1,none⟩) (by show W.heap.size+1+1<W.heap.size+3;omega) (.slice iJ L1.length iI)).setCell (p:=⟨W.heap.size+1+1,2,none⟩) (by show W.heap.size+1+1<W.heap.size+3;omega) (.slice j6 L2.length j4)).setCell (p:=⟨W.heap.size+1+1,3,none⟩) (by show W.heap.size+1+1<W.heap.size+3;omega) (.int .i64 x3)) k (je.out k hk).2 (by have:=(je.out k hk).1;omega)))
 have dS:=aj (fun k hk=>(⟨(dS.out k hk).1,bV (dS.out k hk).2 (bQ hb (S:=fun x=>x<W.heap.size+3) (((((Off.refl (fun x=>x<W.heap.size+3) w1).setCell (p:=⟨W.heap.size+1+1,0,none⟩) (by show W.heap.size+1+1<W.heap.size+3;omega) (.slice fq L0.length eZ)).setCell (p:=⟨W.heap.size+1+1,1,none⟩) (by show W.heap.size+1+1<W.heap.size+3;omega) (.slice iJ L1.length iI)).setCell (p:=⟨W.heap.size+1+1,2,none⟩) (by show W.heap.size+1+1<W.heap.size+3;omega) (.slice j6 L2.length j4)).setCell (p:=⟨W.heap.size+1+1,3,none⟩) (by show W.heap.size+1+1<W.heap.size+3;omega) (.int .i64 x3)))⟩:W.heap.size+3≤k∧k<w2.heap.size))
 have gP:=aj (fun k hk=>(⟨(gP.out k hk).1,bV (gP.out k hk).2 (bQ hb (S:=fun x=>x<W.heap.size+3) (((((Off.refl (fun x=>x<W.heap.size+3) w1).setCell (p:=⟨W.heap.size+1+1,0,none⟩) (by show W.heap.size+1+1<W.heap.size+3;omega) (.slice fq L0.length eZ)).setCell (p:=⟨W.heap.size+1+1,1,none⟩) (by show W.heap.size+1+1<W.heap.size+3;omega) (.slice iJ L1.length iI)).setCell (p:=⟨W.heap.size+1+1,2,none⟩) (by show W.heap.size+1+1<W.heap.size+3;omega) (.slice j6 L2.length j4)).setCell (p:=⟨W.heap.size+1+1,3,none⟩) (by show W.heap.size+1+1<W.heap.size+3;omega) (.int .i64 x3)))⟩:W.heap.size+3≤k∧k<w2.heap.size))
 have je:=aj (fun k hk=>(⟨(je.out k hk).1,bV (je.out k hk).2 (bQ hb (S:=fun x=>x<W.heap.size+3) (((((Off.refl (fun x=>x<W.heap.size+3) w1).setCell (p:=⟨W.heap.size+1+1,0,none⟩) (by show W.heap.size+1+1<W.heap.size+3;omega) (.slice fq L0.length eZ)).setCell (p:=⟨W.heap.size+1+1,1,none⟩) (by show W.heap.size+1+1<W.heap.size+3;omega) (.slice iJ L1.length iI)).setCell (p:=⟨W.heap.size+1+1,2,none⟩) (by show W.heap.size+1+1<W.heap.size+3;omega) (.slice j6 L2.length j4)).setCell (p:=⟨W.heap.size+1+1,3,none⟩) (by show W.heap.size+1+1<W.heap.size+3;omega) (.int .i64 x3)))⟩:W.heap.size+3≤k∧k<w2.heap.size))
 have HB2:=aj (Below.trans (B:=W.heap.size) (a:=W) ((((HB1.out.setCell (p:=⟨W.heap.size+1+1,0,none⟩) (by show W.heap.size≤W.heap.size+1+1;omega) (.slice fq L0.length eZ)).setCell (p:=⟨W.heap.size+1+1,1,none⟩) (by show W.heap.size≤W.heap.size+1+1;omega) (.slice iJ L1.length iI)).setCell (p:=⟨W.heap.size+1+1,2,none⟩) (by show W.heap.size≤W.heap.size+1+1;omega) (.slice j6 L2.length j4)).setCell (p:=⟨W.heap.size+1+1,3,none⟩) (by show W.heap.size≤W.heap.size+1+1;omega) (.int .i64 x3)) (hb.mono (by have h0:=hz1;first | omega | (simp;omega))))
 have Gv:=aj UZ
 have nG:=aj (fun k hk=>eG hb (m:=W.heap.size+3) (by have h0:=hz1;first | omega | (simp;omega)) k hk)
 have aa2:=aj (eG hb (m:=0) (dX _))
 have Uq:=aj (Dm hb (((((Off.refl (fun x=>x<W.heap.size+3) w1).setCell (p:=⟨W.heap.size+1+1,0,none⟩) (by show W.heap.size+1+1<W.heap.size+3;omega) (.slice fq L0.length eZ)).setCell (p:=⟨W.heap.size+1+1,1,none⟩) (by show W.heap.size+1+1<W.heap.size+3;omega) (.slice iJ L1.length iI)).setCell (p:=⟨W.heap.size+1+1,2,none⟩) (by show W.heap.size+1+1<W.heap.size+3;omega) (.slice j6 L2.length j4)).setCell (p:=⟨W.heap.size+1+1,3,none⟩) (by show W.heap.size+1+1<W.heap.size+3;omega) (.int .i64 x3)))
 have hle2:=bQ hb (((((Off.refl (fun x=>x<W.heap.size+3) w1).setCell (p:=⟨W.heap.size+1+1,0,none⟩) (by show W.heap.size+1+1<W.heap.size+3;omega) (.slice fq L0.length eZ)).setCell (p:=⟨W.heap.size+1+1,1,none⟩) (by show W.heap.size+1+1<W.heap.size+3;omega) (.slice iJ L1.length iI)).setCell (p:=⟨W.heap.size+1+1,2,none⟩) (by show W.heap.size+1+1<W.heap.size+3;omega) (.slice j6 L2.length j4)).setCell (p:=⟨W.heap.size+1+1,3,none⟩) (by show W.heap.size+1+1<W.heap.size+3;omega) (.int .i64 x3))
 have iD:=aj hP
 have HR2:=aj hR
 have vg:=aj hO
 clear h hb hP hR hO UZ
 clear vk CO CF CV CS qH CK CB CU CQ nX Ev Ep Ez Ey uy FX FT Ga FZ zo Si R7 SG SF FW o1_5 r1_5 f1_5 g1_5 FV o1_6 r1_6 f1_6 g1_6 JZ o1_7 r1_7 f1_7 g1_7
 obtain ⟨CJ,CG,zn,FU,O8,O7,O6,Sc⟩:=iD.out.fV rfl
 obtain ⟨Pj,Ph,Pg,Pf,Yp,o2_5,o2_6,o2_7⟩:=vg.out.fV rfl
 obtain ⟨O4,O1,OZ,OY,Yj,r2_5,r2_6,r2_7⟩:=HR2.out.fV rfl
 obtain ⟨Py,Px,Pw,Pv,Yv,f2_5,f2_6,f2_7⟩:=vg.out.zm
 obtain ⟨Pt,Pq,Pp,Po,Yu,g2_5,g2_6,g2_7⟩:=HR2.out.zm
 go_wp2_with fail
 refine (Ve (by have h0:=ni.out;simp only [bW,Pr,Sl,I,Bo,atom] at h0 ⊢;omega) ((Af.out.below ay (HB2.out.setCell (p:=⟨W.heap.size+1+1,4,none⟩) (by show W.heap.size≤W.heap.size+1+1;omega) (.slice mX L3.length mV))).more ay (by have h0:=hz2;first | omega | (simp;omega)))).mono ?_
 intro e w3 h
 obtain ⟨lY,lX,rfl,UY,hb⟩:=bI h
 have hP:aN w3 (W.heap.size) 31 #[.slice a0 L0.length c0,.slice a1 L1.length c1,.slice a2 L2.length c2,.int .i64 x3,.slice a3 L3.length c3,.slice a4 L4.length c4,.slice a5 L5.length c5,.int .i64 x7]:=aN.call (aN.far (b:=W.heap.size+1+1) (o:=4) iD.out (by omega) (.slice mX L3.length mV)) hb
 have hR:aN w3 (W.heap.size+1) 44 #[.slice none 0 0,.slice none 0 0,.slice none 0 0,.int .i64 0,.slice none 0 0,.slice none 0 0,.slice none 0 0,.int .i64 0]:=aN.call (aN.far (b:=W.heap.size+1+1) (o:=4) HR2.out (by omega) (.slice mX L3.length mV)) hb
 have hO:aN w3 (W.heap.size+1+1) 44 #[.slice fq L0.length eZ,.slice iJ L1.length iI,.slice j6 L2.length j4,.int .i64 x3,.slice mX L3.length mV,.slice none 0 0,.slice none 0 0,.int .i64 0]:=aN.call (aN.set vg.out 4 (.slice mX L3.length mV)) hb
 have hz3:W.heap.size+3≤w3.heap.size:=eH hz2 (bQ hb (S:=fun x=>x<W.heap.size+3) ((Off.refl (fun x=>x<W.heap.size+3) w2).setCell (p:=⟨W.heap.size+1+1,4,none⟩) (by show W.heap.size+1+1<W.heap.size+3;omega) (.slice mX L3.length mV)))
 have kP:=aj (kP.out.keep (aY ak) (fun k hk=>eP hb (S:=fun x=>x<W.heap.size+3) ((Off.refl (fun x=>x<W.heap.size+3) w2).setCell (p:=⟨W.heap.size+1+1,4,none⟩) (by show W.heap.size+1+1<W.heap.size+3;omega) (.slice mX L3.length mV)) k (dS.out k hk).2 (by have:=(dS.out k hk).1;omega)))
 have qP:=aj (qP.out.keep aD (fun k hk=>eP hb (S:=fun x=>x<W.heap.size+3) ((Off.refl (fun x=>x<W.heap.size+3) w2).setCell (p:=⟨W.heap.size+1+1,4,none⟩) (by show W.heap.size+1+1<W.heap.size+3;omega) (.slice mX L3.length mV)) k (gP.out k hk).2 (by have:=(gP.out k hk).1;omega)))
 have vM:=aj (vM.out.keep aB (fun k hk=>eP hb (S:=fun x=>x<W.heap.size+3) ((Off.refl (fun x=>x<W.heap.size+3) w2).setCell (p:=⟨W.heap.size+1+1,4,none⟩) (by show W.heap.size+1+1<W.heap.size+3;omega) (.slice mX L3.length mV)) k (je.out k hk).2 (by have:=(je.out k hk).1;omega)))
 have Gv:=aj (Gv.out.keep aK (fun k hk=>eP hb (S:=fun x=>x<W.heap.size+3) ((Off.refl (fun x=>x<W.heap.size+3) w2).setCell (p:=⟨W.heap.size+1+1,4,none⟩) (by show W.heap.size+1+1<W.heap.size+3;omega) (.slice mX L3.length mV)) k (nG.out k hk).2 (by have:=(nG.out k hk).1;omega)))
 have dS:=aj (fun k hk=>(⟨(dS.out k hk).1,bV (dS.out k hk).2 (bQ hb (S:=fun x=>x<W.heap.size+3) ((Off.refl (fun x=>x<W.heap.size+3) w2).setCell (p:=⟨W.heap.size+1+1,4,none⟩) (by show W.heap.size+1+1<W.heap.size+3;omega) (.slice mX L3.length mV)))⟩:W.heap.size+3≤k∧k<w3.heap.size))
 have gP:=aj (fun k hk=>(⟨(gP.out k hk).1,bV (gP.out k hk).2 (bQ hb (S:=fun x=>x<W.heap.size+3) ((Off.refl (fun x=>x<W.heap.size+3) w2).setCell (p:=⟨W.heap.size+1+1,4,none⟩) (by show W.heap.size+1+1<W.heap.size+3;omega) (.slice mX L3.length mV)))⟩:W.heap.size+3≤k∧k<w3.heap.size))
 have je:=aj (fun k hk=>(⟨(je.out k hk).1,bV (je.out k hk).2 (bQ hb (S:=fun x=>x<W.heap.size+3) ((Off.refl (fun x=>x<W.heap.size+3) w2).setCell (p:=⟨W.heap.size+1+1,4,none⟩) (by show W.heap.size+1+1<W.heap.size+3;omega) (.slice mX L3.length mV)))⟩:W.heap.size+3≤k∧k<w3.heap.size))
 have nG:=aj (fun k hk=>(⟨(nG.out k hk).1,bV (nG.out k hk).2 (bQ hb (S:=fun x=>x<W.heap.size+3) ((Off.refl (fun x=>x<W.heap.size+3) w2).setCell (p:=⟨W.heap.size+1+1,4,none⟩) (by show W.heap.size+1+1<W.heap.size+3;omega) (.slice mX L3.length mV)))⟩:W.heap.size+3≤k∧k<w3.heap.size))
 have HB3:=aj (Below.trans (B:=W.heap.size) (a:=W) (HB2.out.setCell (p:=⟨W.heap.size+1+1,4,none⟩) (by show W.heap.size≤W.heap.size+1+1;omega) (.slice mX L3.length mV)) (hb.mono (by have h0:=hz2;first | omega | (simp;omega))))
 have Ul:=aj UY
 have vN:=aj (fun k hk=>eG hb (m:=W.heap.size+3) (by have h0:=hz2;first | omega | (simp;omega)) k hk)
 have adT:=aj (eG hb (m:=0) (dX _))
 have MV:=aj (Dm hb ((Off.refl (fun x=>x<W.heap.size+3) w2).setCell (p:=⟨W.heap.size+1+1,4,none⟩) (by show W.heap.size+1+1<W.heap.size+3;omega) (.slice mX L3.length mV)))
 have hle3:=bQ hb ((Off.refl (fun x=>x<W.heap.size+3) w2).setCell (p:=⟨W.heap.size+1+1,4,none⟩) (by show W.heap.size+1+1<W.heap.size+3;omega) (.slice mX L3.length mV))
 have iT:=aj hP
 have HR3:=aj hR
 have Cv:=aj hO
 clear h hb hP hR hO UY
 clear CJ Pj O4 Py Pt CG Ph O1 Px Pq zn Pg OZ Pw Pp FU Pf OY Pv Po O8 Yp Yj Yv Yu O7 o2_5 r2_5 f2_5 g2_5 O6 o2_6 r2_6 f2_6 g2_6 Sc o2_7 r2_7 f2_7 g2_7
 obtain ⟨Eu,Et,Es,Yl,Sb,R9,JY,Yk⟩:=iT.out.fV rfl
 obtain ⟨o3_0,o3_1,o3_2,o3_3,o3_4,o3_5,o3_6,o3_7⟩:=Cv.out.fV rfl
 obtain ⟨r3_0,r3_1,r3_2,r3_3,r3_4,r3_5,r3_6,r3_7⟩:=HR3.out.fV rfl
 obtain ⟨f3_0,f3_1,f3_2,f3_3,f3_4,f3_5,f3_6,f3_7⟩:=Cv.out.zm
 obtain ⟨g3_0,g3_1,g3_2,g3_3,g3_4,g3_5,g3_6,g3_7⟩:=HR3.out.zm
 go_wp2_with fail
 refine (YW (by have h0:=ni.out;simp only [bW,Pr,Sl,I,Bo,atom] at h0 ⊢;omega) ((Ae.out.below aT (HB3.out.setCell (p:=⟨W.heap.size+1+1,5,none⟩) (by show W.heap.size≤W.heap.size+1+1;omega) (.slice lY L4.length lX))).more aT (by have h0:=hz3;first | omega | (simp;omega)))).mono ?_
 intro e w4 h
 obtain ⟨PD,Pz,rfl,UW,hb⟩:=bI h
 have hP:aN w4 (W.heap.size) 31 #[.slice a0 L0.length c0,.slice a1 L1.length c1,.slice a2 L2.length c2,.int .i64 x3,.slice a3 L3.length c3,.slice a4 L4.length c4,.slice a5 L5.length c5,.int .i64 x7]:=aN.call (aN.far (b:=W.heap.size+1+1) (o:=5) iT.out (by omega) (.slice lY L4.length lX)) hb
 have hR:aN w4 (W.heap.size+1) 44 #[.slice none 0 0,.slice none 0 0,.slice none 0 0,.int .i64 0,.slice none 0 0,.slice none 0 0,.slice none 0 0,.int .i64 0]:=aN.call (aN.far (b:=W.heap.size+1+1) (o:=5) HR3.out (by omega) (.slice lY L4.length lX)) hb
 have hO:aN w4 (W.heap.size+1+1) 44 #[.slice fq L0.length eZ,.slice iJ L1.length iI,.slice j6 L2.length j4,.int .i64 x3,.slice mX L3.length mV,.slice lY L4.length lX,.slice none 0 0,.int .i64 0]:=aN.call (aN.set Cv.out 5 (.slice lY L4.length lX)) hb
 have mP:W.heap.size+3≤w4.heap.size:=eH hz3 (bQ hb (S:=fun x=>x<W.heap.size+3) ((Off.refl (fun x=>x<W.heap.size+3) w3).setCell (p:=⟨W.heap.size+1+1,5,none⟩) (by show W.heap.size+1+1<W.heap.size+3;omega) (.slice lY L4.length lX)))
 have kP:=aj (kP.out.keep (aY ak) (fun k hk=>eP hb (S:=fun x=>x<W.heap.size+3) ((Off.refl (fun x=>x<W.heap.size+3) w3).setCell (p:=⟨W.heap.size+1+1,5,none⟩) (by show W.heap.size+1+1<W.heap.size+3;omega) (.slice lY L4.length lX)) k (dS.out k hk).2 (by have:=(dS.out k hk).1;omega)))
 have qP:=aj (qP.out.keep aD (fun k hk=>eP hb (S:=fun x=>x<W.heap.size+3) ((Off.refl (fun x=>x<W.heap.size+3) w3).setCell (p:=⟨W.heap.size+1+1,5,none⟩) (by show W.heap.size+1+1<W.heap.size+3;omega) (.slice lY L4.length lX)) k (gP.out k hk).2 (by have:=(gP.out k hk).1;omega)))
 have vM:=aj (vM.out.keep aB (fun k hk=>eP hb (S:=fun x=>x<W.heap.size+3) ((Off.refl (fun x=>x<W.heap.size+3) w3).setCell (p:=⟨W.heap.size+1+1,5,none⟩) (by show W.heap.size+1+1<W.heap.size+3;omega) (.slice lY L4.length lX)) k (je.out k hk).2 (by have:=(je.out k hk).1;omega)))
 have Gv:=aj (Gv.out.keep aK (fun k hk=>eP hb (S:=fun x=>x<W.heap.size+3) ((Off.refl (fun x=>x<W.heap.size+3) w3).setCell (p:=⟨W.heap.size+1+1,5,none⟩) (by show W.heap.size+1+1<W.heap.size+3;omega) (.slice lY L4.length lX)) k (nG.out k hk).2 (by have:=(nG.out k hk).1;omega)))
 have Ul:=aj (Ul.out.keep ay (fun k hk=>eP hb (S:=fun x=>x<W.heap.size+3) ((Off.refl (fun x=>x<W.heap.size+3) w3).setCell (p:=⟨W.heap.size+1+1,5,none⟩) (by show W.heap.size+1+1<W.heap.size+3;omega) (.slice lY L4.length lX)) k (vN.out k hk).2 (by have:=(vN.out k hk).1;omega)))
 have dS:=aj (fun k hk=>(⟨(dS.out k hk).1,bV (dS.out k hk).2 (bQ hb (S:=fun x=>x<W.heap.size+3) ((Off.refl (fun x=>x<W.heap.size+3) w3).setCell (p:=⟨W.heap.size+1+1,5,none⟩) (by show W.heap.size+1+1<W.heap.size+3;omega) (.slice lY L4.length lX)))⟩:W.heap.size+3≤k∧k<w4.heap.size))
 have gP:=aj (fun k hk=>(⟨(gP.out k hk).1,bV (gP.out k hk).2 (bQ hb (S:=fun x=>x<W.heap.size+3) ((Off.refl (fun x=>x<W.heap.size+3) w3).setCell (p:=⟨W.heap.size+1+1,5,none⟩) (by show W.heap.size+1+1<W.heap.size+3;omega) (.slice lY L4.length lX)))⟩:W.heap.size+3≤k∧k<w4.heap.size))
 have je:=aj (fun k hk=>(⟨(je.out k hk).1,bV (je.out k hk).2 (bQ hb (S:=fun x=>x<W.heap.size+3) ((Off.refl (fun x=>x<W.heap.size+3) w3).setCell (p:=⟨W.heap.size+1+1,5,none⟩) (by show W.heap.size+1+1<W.heap.size+3;omega) (.slice lY L4.length lX)))⟩:W.heap.size+3≤k∧k<w4.heap.size))
 have nG:=aj (fun k hk=>(⟨(nG.out k hk).1,bV (nG.out k hk).2 (bQ hb (S:=fun x=>x<W.heap.size+3) ((Off.refl (fun x=>x<W.heap.size+3) w3).setCell (p:=⟨W.heap.size+1+1,5,none⟩) (by show W.heap.size+1+1<W.heap.size+3;omega) (.slice lY L4.length lX)))⟩:W.heap.size+3≤k∧k<w4.heap.size))
 have vN:=aj (fun k hk=>(⟨(vN.out k hk).1,bV (vN.out k hk).2 (bQ hb (S:=fun x=>x<W.heap.size+3) ((Off.refl (fun x=>x<W.heap.size+3) w3).setCell (p:=⟨W.heap.size+1+1,5,none⟩) (by show W.heap.size+1+1<W.heap.size+3;omega) (.slice lY L4.length lX)))⟩:W.heap.size+3≤k∧k<w4.heap.size))
 have jU:=aj (Below.trans (B:=W.heap.size) (a:=W) (HB3.out.setCell (p:=⟨W.heap.size+1+1,5,none⟩) (by show W.heap.size≤W.heap.size+1+1;omega) (.slice lY L4.length lX)) (hb.mono (by have h0:=hz3;first | omega | (simp;omega))))
 have adU:=aj UW
 have MU:=aj (fun k hk=>eG hb (m:=W.heap.size+3) (by have h0:=hz3;first | omega | (simp;omega)) k hk)
 have HU_L5:=aj (eG hb (m:=0) (dX _))
 have Gx:=aj (Dm hb ((Off.refl (fun x=>x<W.heap.size+3) w3).setCell (p:=⟨W.heap.size+1+1,5,none⟩) (by show W.heap.size+1+1<W.heap.size+3;omega) (.slice lY L4.length lX)))
 have hle4:=bQ hb ((Off.refl (fun x=>x<W.heap.size+3) w3).setCell (p:=⟨W.heap.size+1+1,5,none⟩) (by show W.heap.size+1+1<W.heap.size+3;omega) (.slice lY L4.length lX))
 have kL:=aj hP
 have HR4:=aj hR
 have HO4:=aj hO
 clear h hb hP hR hO UW
 clear Eu o3_0 r3_0 f3_0 g3_0 Et o3_1 r3_1 f3_1 g3_1 Es o3_2 r3_2 f3_2 g3_2 Yl o3_3 r3_3 f3_3 g3_3 Sb o3_4 r3_4 f3_4 g3_4 R9 o3_5 r3_5 f3_5 g3_5 JY o3_6 r3_6 f3_6 g3_6 Yk o3_7 r3_7 f3_7 g3_7
 obtain ⟨p4_0,p4_1,p4_2,p4_3,p4_4,p4_5,p4_6,p4_7⟩:=kL.out.fV rfl
 obtain ⟨o4_0,o4_1,o4_2,o4_3,o4_4,o4_5,o4_6,o4_7⟩:=HO4.out.fV rfl
 obtain ⟨r4_0,r4_1,r4_2,r4_3,r4_4,r4_5,r4_6,r4_7⟩:=HR4.out.fV rfl
 obtain ⟨f4_0,f4_1,f4_2,f4_3,f4_4,f4_5,f4_6,f4_7⟩:=HO4.out.zm
 obtain ⟨g4_0,g4_1,g4_2,g4_3,g4_4,g4_5,g4_6,g4_7⟩:=HR4.out.zm
 go_wp2
 refine qA (v:=.agg #[.slice fq L0.length eZ,.slice iJ L1.length iI,.slice j6 L2.length j4,.int .i64 x3,.slice mX L3.length mV,.slice lY L4.length lX,.slice PD L5.length Pz,.int .i64 x7]) (by simp [results,Tryz.results9,go_sem, *]) rfl ⟨[.slice fq L0.length eZ,.slice iJ L1.length iI,.slice j6 L2.length j4,.int .i64 x3,.slice mX L3.length mV,.slice lY L4.length lX,.slice PD L5.length Pz,.int .i64 x7],rfl,?_,((((((((((jU.out.setCell (p:=⟨W.heap.size+1+1,6,none⟩) (by show W.heap.size≤W.heap.size+1+1;omega) (.slice PD L5.length Pz)).setCell (p:=⟨W.heap.size+1+1,7,none⟩) (by show W.heap.size≤W.heap.size+1+1;omega) (.int .i64 x7)).setCell (p:=⟨W.heap.size+1,0,none⟩) (by show W.heap.size≤W.heap.size+1;omega) (.slice fq L0.length eZ)).setCell (p:=⟨W.heap.size+1,1,none⟩) (by show W.heap.size≤W.heap.size+1;omega) (.slice iJ L1.length iI)).setCell (p:=⟨W.heap.size+1,2,none⟩) (by show W.heap.size≤W.heap.size+1;omega) (.slice j6 L2.length j4)).setCell (p:=⟨W.heap.size+1,3,none⟩) (by show W.heap.size≤W.heap.size+1;omega) (.int .i64 x3)).setCell (p:=⟨W.heap.size+1,4,none⟩) (by show W.heap.size≤W.heap.size+1;omega) (.slice mX L3.length mV)).setCell (p:=⟨W.heap.size+1,5,none⟩) (by show W.heap.size≤W.heap.size+1;omega) (.slice lY L4.length lX)).setCell (p:=⟨W.heap.size+1,6,none⟩) (by show W.heap.size≤W.heap.size+1;omega) (.slice PD L5.length Pz)).setCell (p:=⟨W.heap.size+1,7,none⟩) (by show W.heap.size≤W.heap.size+1;omega) (.int .i64 x7))⟩
 have hoff:=(((((((((((Off.refl (fun x=>x<W.heap.size+3) w4).setCell (p:=⟨W.heap.size+1+1,6,none⟩) (by show W.heap.size+1+1<W.heap.size+3;omega) (.slice PD L5.length Pz)).setCell (p:=⟨W.heap.size+1+1,7,none⟩) (by show W.heap.size+1+1<W.heap.size+3;omega) (.int .i64 x7)).setCell (p:=⟨W.heap.size+1,0,none⟩) (by show W.heap.size+1<W.heap.size+3;omega) (.slice fq L0.length eZ)).setCell (p:=⟨W.heap.size+1,1,none⟩) (by show W.heap.size+1<W.heap.size+3;omega) (.slice iJ L1.length iI)).setCell (p:=⟨W.heap.size+1,2,none⟩) (by show W.heap.size+1<W.heap.size+3;omega) (.slice j6 L2.length j4)).setCell (p:=⟨W.heap.size+1,3,none⟩) (by show W.heap.size+1<W.heap.size+3;omega) (.int .i64 x3)).setCell (p:=⟨W.heap.size+1,4,none⟩) (by show W.heap.size+1<W.heap.size+3;omega) (.slice mX L3.length mV)).setCell (p:=⟨W.heap.size+1,5,none⟩) (by show W.heap.size+1<W.heap.size+3;omega) (.slice lY L4.length lX)).setCell (p:=⟨W.heap.size+1,6,none⟩) (by show W.heap.size+1<W.heap.size+3;omega) (.slice PD L5.length Pz)).setCell (p:=⟨W.heap.size+1,7,none⟩) (by show W.heap.size+1<W.heap.size+3;omega) (.int .i64 x7))
 have hsz:=hoff.size
 exact xQ (fun k hk=>⟨by have:=(dS.out k hk).1;omega,by have:=(dS.out k hk).2;omega⟩) (fun k hk=>⟨by have:=(gP.out k hk).1;omega,by have:=(gP.out k hk).2;omega⟩) (fun k hk=>⟨by have:=(je.out k hk).1;omega,by have:=(je.out k hk).2;omega⟩) (fun k hk=>⟨by have:=(nG.out k hk).1;omega,by have:=(nG.out k hk).2;omega⟩) (fun k hk=>⟨by have:=(vN.out k hk).1;omega,by have:=(vN.out k hk).2;omega⟩) (fun k hk=>⟨by have:=(MU.out k hk).1;omega,by have:=(MU.out k hk).2;omega⟩) WW.out WV.out (fun k h h'=>by have h1:=(yB.out k h).2;have h2:=Uq.out k h';omega) (fun k h h'=>by have h1:=(yB.out k h).2;have h2:=MV.out k h';omega) (fun k h h'=>by have h1:=(yB.out k h).2;have h2:=Gx.out k h';omega) WU.out (fun k h h'=>by have h1:=(Gt.out k h).2;have h2:=Uq.out k h';omega) (fun k h h'=>by have h1:=(Gt.out k h).2;have h2:=MV.out k h';omega) (fun k h h'=>by have h1:=(Gt.out k h).2;have h2:=Gx.out k h';omega) (fun k h h'=>by have h1:=(MS.out k h).2;have h2:=Uq.out k h';omega) (fun k h h'=>by have h1:=(MS.out k h).2;have h2:=MV.out k h';omega) (fun k h h'=>by have h1:=(MS.out k h).2;have h2:=Gx.out k h';omega) (fun k h h'=>by have h1:=(aa2.out k h).2;have h2:=MV.out k h';omega) (fun k h h'=>by have h1:=(aa2.out k h).2;have h2:=Gx.out k h';omega) (fun k h h'=>by have h1:=(adT.out k h).2;have h2:=Gx.out k h';omega) (kP.out.keep (aY ak) (fun k hk=>hoff.block k (dS.out k hk).2 (by have:=(dS.out k hk).1;omega))) (qP.out.keep aD (fun k hk=>hoff.block k (gP.out k hk).2 (by have:=(gP.out k hk).1;omega))) (vM.out.keep aB (fun k hk=>hoff.block k (je.out k hk).2 (by have:=(je.out k hk).1;omega))) (Gv.out.keep aK (fun k hk=>hoff.block k (nG.out k hk).2 (by have:=(nG.out k hk).1;omega))) (Ul.out.keep ay (fun k hk=>hoff.block k (vN.out k hk).2 (by have:=(vN.out k hk).1;omega))) (adU.out.keep aT (fun k hk=>hoff.block k (MU.out k hk).2 (by have:=(MU.out k hk).1;omega)))
theorem eq_Yard {L0:List (List (av))}{L1:List (bq)}{L2:List (aV)}{x3:Int}{L3:List (aO)}{L4:List (aG)}{L5:List (bH)}{x7:Int}{a0:Option Addr}{c0:Nat}{a1:Option Addr}{c1:Nat}{a2:Option Addr}{c2:Nat}{a3:Option Addr}{c3:Nat}{a4:Option Addr}{c4:Nat}{a5:Option Addr}{c5:Nat}{a0':Option Addr}{c0':Nat}{a1':Option Addr}{c1':Nat}{Ct:Option Addr}{c2':Nat}{a3':Option Addr}{c3':Nat}{a4':Option Addr}{JI:Nat}{JJ:Option Addr}{JH:Nat}{W:World}(dP:aH (Sl au) W W.heap.size L0 a0 c0)(gM:aH aS W W.heap.size L1 a1 c1)(gL:aH aM W W.heap.size L2 a2 c2)(ku:aH aJ W W.heap.size L3 a3 c3)(kr:aH aI W W.heap.size L4 a4 c4)(ko:aH bD W W.heap.size L5 a5 c5)(nA:aH (Sl au) W W.heap.size L0 a0' c0')(yw:aH aS W W.heap.size L1 a1' c1')(yu:aH aM W W.heap.size L2 Ct c2')(Gq:aH aJ W W.heap.size L3 a3' c3')(Gp:aH aI W W.heap.size L4 a4' JI)(Gn:aH bD W W.heap.size L5 JJ JH):Calls Tryz.prog 13 #[.agg #[.slice a0 L0.length c0,.slice a1 L1.length c1,.slice a2 L2.length c2,.int .i64 x3,.slice a3 L3.length c3,.slice a4 L4.length c4,.slice a5 L5.length c5,.int .i64 x7],.agg #[.slice a0' L0.length c0',.slice a1' L1.length c1',.slice Ct L2.length c2',.int .i64 x3,.slice a3' L3.length c3',.slice a4' L4.length JI,.slice JJ L5.length JH,.int .i64 x7]] W (sD true W):=by
 have jL:=aj dP
 have vO:=aj nA
 have pF:=aj gM
 have Gz:=aj yw
 have pE:=aj gL
 have Gy:=aj yu
 have Ag:=aj ku
 have Uv:=aj Gq
 have Af:=aj kr
 have Uu:=aj Gp
 have Ae:=aj ko
 have Ut:=aj Gn
 clear dP nA gM yw gL yu ku Gq kr Gp ko Gn
 have HB0:=aj (show Below W.heap.size W ((W.alloc (.cells #[.slice a0 L0.length c0,.slice a1 L1.length c1,.slice a2 L2.length c2,.int .i64 x3,.slice a3 L3.length c3,.slice a4 L4.length c4,.slice a5 L5.length c5,.int .i64 x7] 44)).alloc (.cells #[.slice a0' L0.length c0',.slice a1' L1.length c1',.slice Ct L2.length c2',.int .i64 x3,.slice a3' L3.length c3',.slice a4' L4.length JI,.slice JJ L5.length JH,.int .i64 x7] 44)) from ((aU _ _).alloc (bK _) _).alloc (by simp) _)
 have hP:=(aN.new W 44 #[.slice a0 L0.length c0,.slice a1 L1.length c1,.slice a2 L2.length c2,.int .i64 x3,.slice a3 L3.length c3,.slice a4 L4.length c4,.slice a5 L5.length c5,.int .i64 x7]).alloc (.cells #[.slice a0' L0.length c0',.slice a1' L1.length c1',.slice Ct L2.length c2',.int .i64 x3,.slice a3' L3.length c3',.slice a4' L4.length JI,.slice JJ L5.length JH,.int .i64 x7] 44)
 have hQ:=aN.new (W.alloc (.cells #[.slice a0 L0.length c0,.slice a1 L1.length c1,.slice a2 L2.length c2,.int .i64 x3,.slice a3 L3.length c3,.slice a4 L4.length c4,.slice a5 L5.length c5,.int .i64 x7] 44)) 44 #[.slice a0' L0.length c0',.slice a1' L1.length c1',.slice Ct L2.length c2',.int .i64 x3,.slice a3' L3.length c3',.slice a4' L4.length JI,.slice JJ L5.length JH,.int .i64 x7]
 simp only [World.size_alloc] at hP hQ
 have iF:=aj hP
 have Di:=aj hQ
 have hz0:W.heap.size≤((W.alloc (.cells #[.slice a0 L0.length c0,.slice a1 L1.length c1,.slice a2 L2.length c2,.int .i64 x3,.slice a3 L3.length c3,.slice a4 L4.length c4,.slice a5 L5.length c5,.int .i64 x7] 44)).alloc (.cells #[.slice a0' L0.length c0',.slice a1' L1.length c1',.slice Ct L2.length c2',.int .i64 x3,.slice a3' L3.length c3',.slice a4' L4.length JI,.slice JJ L5.length JH,.int .i64 x7] 44)).heap.size:=HB0.out.size
 clear hP hQ
 go_enter Tryz.func13,Tryz.ntmps13
 go_wp2_with fail
 refine (eq_Config ((jL.out.below (aY ak) HB0.out).more (aY ak) hz0) ((pF.out.below aD HB0.out).more aD hz0) ((pE.out.below aB HB0.out).more aB hz0) ((vO.out.below (aY ak) HB0.out).more (aY ak) hz0) ((Gz.out.below aD HB0.out).more aD hz0) ((Gy.out.below aB HB0.out).more aB hz0)).mono ?_
 intro e w1 h
 obtain ⟨rfl,hb⟩:=bT h
 have dh:=aj (iF.out.call hb)
 have nk:=aj (Di.out.call hb)
 have HB1:=aj (HB0.out.trans (hb.mono hz0))
 have hz1:W.heap.size≤w1.heap.size:=HB1.out.size
 clear h hb
 have zo:=dh.out.at_ 4 rfl
 have FW:=dh.out.at_ 5 rfl
 have FV:=dh.out.at_ 6 rfl
 have JZ:=dh.out.at_ 7 rfl
 have R8:=nk.out.at_ 4 rfl
 have q1_5:=nk.out.at_ 5 rfl
 have q1_6:=nk.out.at_ 6 rfl
 have q1_7:=nk.out.at_ 7 rfl
 go_wp2_with fail
 refine (eq_NodeS ((Ag.out.below aK HB1.out).more aK hz1) ((Uv.out.below aK HB1.out).more aK hz1)).mono ?_
 intro e w2 h
 obtain ⟨rfl,hb⟩:=bT h
 have iD:=aj (dh.out.call hb)
 have wY:=aj (nk.out.call hb)
 have HB2:=aj (HB1.out.trans (hb.mono hz1))
 have hz2:W.heap.size≤w2.heap.size:=HB2.out.size
 clear h hb
 clear zo R8 FW q1_5 FV q1_6 JZ q1_7
 have O7:=iD.out.at_ 5 rfl
 have O6:=iD.out.at_ 6 rfl
 have Sc:=iD.out.at_ 7 rfl
 have q2_5:=wY.out.at_ 5 rfl
 have q2_6:=wY.out.at_ 6 rfl
 have q2_7:=wY.out.at_ 7 rfl
 go_wp2_with fail
 refine (eq_TaskS ((Af.out.below ay HB2.out).more ay hz2) ((Uu.out.below ay HB2.out).more ay hz2)).mono ?_
 intro e w3 h
 obtain ⟨rfl,hb⟩:=bT h
 have iT:=aj (iD.out.call hb)
 have HQ3:=aj (wY.out.call hb)
 have HB3:=aj (HB2.out.trans (hb.mono hz2))
 have hz3:W.heap.size≤w3.heap.size:=HB3.out.size
 clear h hb
 clear O7 q2_5 O6 q2_6 Sc q2_7
 have JY:=iT.out.at_ 6 rfl
 have Yk:=iT.out.at_ 7 rfl
 have q3_6:=HQ3.out.at_ 6 rfl
 have q3_7:=HQ3.out.at_ 7 rfl
 go_wp2_with fail
 refine (eq_UseS ((Ae.out.below aT HB3.out).more aT hz3) ((Ut.out.below aT HB3.out).more aT hz3)).mono ?_
 intro e w4 h
 obtain ⟨rfl,hb⟩:=bT h
 have kL:=aj (iT.out.call hb)
 have HQ4:=aj (HQ3.out.call hb)
 have jU:=aj (HB3.out.trans (hb.mono hz3))
 have mP:W.heap.size≤w4.heap.size:=jU.out.size
 clear h hb
 clear JY q3_6 Yk q3_7
 have p4_7:=kL.out.at_ 7 rfl
 have q4_7:=HQ4.out.at_ 7 rfl
 go_wp2
 all_goals
  go_ret
  exact ⟨rfl,jU.out⟩
theorem eq_YardOut {L0:List (List (av))}{L1:List (bq)}{L2:List (aV)}{x3:Int}{L3:List (aO)}{L4:List (aG)}{L5:List (bH)}{x7:Int}{x8:Int}{x9:Int}{a0:Option Addr}{c0:Nat}{a1:Option Addr}{c1:Nat}{a2:Option Addr}{c2:Nat}{a3:Option Addr}{c3:Nat}{a4:Option Addr}{c4:Nat}{a5:Option Addr}{c5:Nat}{a0':Option Addr}{c0':Nat}{a1':Option Addr}{c1':Nat}{Ct:Option Addr}{c2':Nat}{a3':Option Addr}{c3':Nat}{a4':Option Addr}{JI:Nat}{JJ:Option Addr}{JH:Nat}{W:World}(dP:aH (Sl au) W W.heap.size L0 a0 c0)(gM:aH aS W W.heap.size L1 a1 c1)(gL:aH aM W W.heap.size L2 a2 c2)(ku:aH aJ W W.heap.size L3 a3 c3)(kr:aH aI W W.heap.size L4 a4 c4)(ko:aH bD W W.heap.size L5 a5 c5)(nA:aH (Sl au) W W.heap.size L0 a0' c0')(yw:aH aS W W.heap.size L1 a1' c1')(yu:aH aM W W.heap.size L2 Ct c2')(Gq:aH aJ W W.heap.size L3 a3' c3')(Gp:aH aI W W.heap.size L4 a4' JI)(Gn:aH bD W W.heap.size L5 JJ JH):Calls Tryz.prog 12 #[.agg #[.slice a0 L0.length c0,.slice a1 L1.length c1,.slice a2 L2.length c2,.int .i64 x3,.slice a3 L3.length c3,.slice a4 L4.length c4,.slice a5 L5.length c5,.int .i64 x7,.int .i64 x8,.int .i64 x9],.agg #[.slice a0' L0.length c0',.slice a1' L1.length c1',.slice Ct L2.length c2',.int .i64 x3,.slice a3' L3.length c3',.slice a4' L4.length JI,.slice JJ L5.length JH,.int .i64 x7,.int .i64 x8,.int .i64 x9]] W (sD true W):=by
 have jL:=aj dP
 have vO:=aj nA
 have pF:=aj gM
 have Gz:=aj yw
 have pE:=aj gL
 have Gy:=aj yu
 have Ag:=aj ku
 have Uv:=aj Gq
 have Af:=aj kr
 have Uu:=aj Gp
 have Ae:=aj ko
 have Ut:=aj Gn
 clear dP nA gM yw gL yu ku Gq kr Gp ko Gn
 have HB0:=aj (show Below W.heap.size W ((W.alloc (.cells #[.slice a0 L0.length c0,.slice a1 L1.length c1,.slice a2 L2.length c2,.int .i64 x3,.slice a3 L3.length c3,.slice a4 L4.length c4,.slice a5 L5.length c5,.int .i64 x7,.int .i64 x8,.int .i64 x9] 46)).alloc (.cells #[.slice a0' L0.length c0',.slice a1' L1.length c1',.slice Ct L2.length c2',.int .i64 x3,.slice a3' L3.length c3',.slice a4' L4.length JI,.slice JJ L5.length JH,.int .i64 x7,.int .i64 x8,.int .i64 x9] 46)) from ((aU _ _).alloc (bK _) _).alloc (by simp) _)
 have hP:=(aN.new W 46 #[.slice a0 L0.length c0,.slice a1 L1.length c1,.slice a2 L2.length c2,.int .i64 x3,.slice a3 L3.length c3,.slice a4 L4.length c4,.slice a5 L5.length c5,.int .i64 x7,.int .i64 x8,.int .i64 x9]).alloc (.cells #[.slice a0' L0.length c0',.slice a1' L1.length c1',.slice Ct L2.length c2',.int .i64 x3,.slice a3' L3.length c3',.slice a4' L4.length JI,.slice JJ L5.length JH,.int .i64 x7,.int .i64 x8,.int .i64 x9] 46)
 have hQ:=aN.new (W.alloc (.cells #[.slice a0 L0.length c0,.slice a1 L1.length c1,.slice a2 L2.length c2,.int .i64 x3,.slice a3 L3.length c3,.slice a4 L4.length c4,.slice a5 L5.length c5,.int .i64 x7,.int .i64 x8,.int .i64 x9] 46)) 46 #[.slice a0' L0.length c0',.slice a1' L1.length c1',.slice Ct L2.length c2',.int .i64 x3,.slice a3' L3.length c3',.slice a4' L4.length JI,.slice JJ L5.length JH,.int .i64 x7,.int .i64 x8,.int .i64 x9]
 simp only [World.size_alloc] at hP hQ
 have iF:=aj hP
 have Di:=aj hQ
 have hz0:W.heap.size≤((W.alloc (.cells #[.slice a0 L0.length c0,.slice a1 L1.length c1,.slice a2 L2.length c2,.int .i64 x3,.slice a3 L3.length c3,.slice a4 L4.length c4,.slice a5 L5.length c5,.int .i64 x7,.int .i64 x8,.int .i64 x9] 46)).alloc (.cells #[.slice a0' L0.length c0',.slice a1' L1.length c1',.slice Ct L2.length c2',.int .i64 x3,.slice a3' L3.length c3',.slice a4' L4.length JI,.slice JJ L5.length JH,.int .i64 x7,.int .i64 x8,.int .i64 x9] 46)).heap.size:=HB0.out.size
 clear hP hQ
 go_enter Tryz.func12,Tryz.ntmps12
 go_wp2_with fail
 refine (eq_Yard ((jL.out.below (aY ak) HB0.out).more (aY ak) hz0) ((pF.out.below aD HB0.out).more aD hz0) ((pE.out.below aB HB0.out).more aB hz0) ((Ag.out.below aK HB0.out).more aK hz0) ((Af.out.below ay HB0.out).more ay hz0) ((Ae.out.below aT HB0.out).more aT hz0) ((vO.out.below (aY ak) HB0.out).more (aY ak) hz0) ((Gz.out.below aD HB0.out).more aD hz0) ((Gy.out.below aB HB0.out).more aB hz0) ((Uv.out.below aK HB0.out).more aK hz0) ((Uu.out.below ay HB0.out).more ay hz0) ((Ut.out.below aT HB0.out).more aT hz0)).mono ?_
 intro e w1 h
 obtain ⟨rfl,hb⟩:=bT h
 have dh:=aj (iF.out.call hb)
 have nk:=aj (Di.out.call hb)
 have HB1:=aj (HB0.out.trans (hb.mono hz0))
 have hz1:W.heap.size≤w1.heap.size:=HB1.out.size
 clear h hb
 have Yn:=dh.out.at_ 8 rfl
 have Ym:=dh.out.at_ 9 rfl
 have q1_8:=nk.out.at_ 8 rfl
 have q1_9:=nk.out.at_ 9 rfl
 go_wp2
 all_goals
  go_ret
  exact ⟨rfl,HB1.out⟩
theorem wC {L0:List (List (av))}{L1:List (bq)}{L2:List (aV)}{x3:Int}{L3:List (aO)}{L4:List (aG)}{L5:List (bH)}{x7:Int}:bW.sz ((L0,L1,L2,x3),L3,L4,L5,x7)=((bZ).sz (L0,L1,L2,x3))+(((Sl aJ)).sz L3)+(((Sl aI)).sz L4)+(((Sl bD)).sz L5):=by
 simp only [bW,Pr,I,Bo,atom];omega
theorem Zb {L0:List (List (av))}{L1:List (bq)}{L2:List (aV)}{x3:Int}{L3:List (aO)}{L4:List (aG)}{L5:List (bH)}{x7:Int}{a0:Option Addr}{c0:Nat}{a1:Option Addr}{c1:Nat}{a2:Option Addr}{c2:Nat}{a3:Option Addr}{c3:Nat}{a4:Option Addr}{c4:Nat}{a5:Option Addr}{c5:Nat}{W:World}{l:Int}(h0:0≤l)(h1:l≤1048576)(dP:aH (Sl au) W W.heap.size L0 a0 c0)(gM:aH aS W W.heap.size L1 a1 c1)(gL:aH aM W W.heap.size L2 a2 c2)(ku:aH aJ W W.heap.size L3 a3 c3)(kr:aH aI W W.heap.size L4 a4 c4)(ko:aH bD W W.heap.size L5 a5 c5):Calls Tryz.prog 7 #[.agg #[.slice a0 L0.length c0,.slice a1 L1.length c1,.slice a2 L2.length c2,.int .i64 x3,.slice a3 L3.length c3,.slice a4 L4.length c4,.slice a5 L5.length c5,.int .i64 x7],.int .i64 l] W (Jz l (bW.sz ((L0,L1,L2,x3),L3,L4,L5,x7)) W):=by
 have jL:=aj dP
 have pF:=aj gM
 have pE:=aj gL
 have Ag:=aj ku
 have Af:=aj kr
 have Ae:=aj ko
 clear dP gM gL ku kr ko
 have HD:=aj (wC (L0:=L0) (L1:=L1) (L2:=L2) (x3:=x3) (L3:=L3) (L4:=L4) (L5:=L5) (x7:=x7))
 have HB0:=aj (show Below W.heap.size W (W.alloc (.cells #[.slice a0 L0.length c0,.slice a1 L1.length c1,.slice a2 L2.length c2,.int .i64 x3,.slice a3 L3.length c3,.slice a4 L4.length c4,.slice a5 L5.length c5,.int .i64 x7] 31)) from (aU _ _).alloc (bK _) _)
 have hP:=aN.new W 31 #[.slice a0 L0.length c0,.slice a1 L1.length c1,.slice a2 L2.length c2,.int .i64 x3,.slice a3 L3.length c3,.slice a4 L4.length c4,.slice a5 L5.length c5,.int .i64 x7]
 have iF:=aj hP
 have hz0:W.heap.size≤(W.alloc (.cells #[.slice a0 L0.length c0,.slice a1 L1.length c1,.slice a2 L2.length c2,.int .i64 x3,.slice a3 L3.length c3,.slice a4 L4.length c4,.slice a5 L5.length c5,.int .i64 x7] 31)).heap.size:=HB0.out.size
 clear hP
 obtain ⟨s0,hs0⟩:∃ s,s=((bZ).sz (L0,L1,L2,x3)):=⟨_,rfl⟩
 have zD:=aj hs0
 rw [←hs0] at HD
 clear hs0
 obtain ⟨s1,hs1⟩:∃ s,s=(((Sl aJ)).sz L3):=⟨_,rfl⟩
 have wX:=aj hs1
 rw [←hs1] at HD
 clear hs1
 obtain ⟨s2,hs2⟩:∃ s,s=(((Sl aI)).sz L4):=⟨_,rfl⟩
 have HS2:=aj hs2
 rw [←hs2] at HD
 clear hs2
 obtain ⟨s3,hs3⟩:∃ s,s=(((Sl bD)).sz L5):=⟨_,rfl⟩
 have zS:=aj hs3
 rw [←hs3] at HD
 clear hs3
 go_enter Tryz.func7,Tryz.ntmps7
 go_wp2_with fail
 refine (Qh (l:=l) (by omega) (by omega) ((jL.out.below (aY ak) HB0.out).more (aY ak) hz0) ((pF.out.below aD HB0.out).more aD hz0) ((pE.out.below aB HB0.out).more aB hz0)).mono ?_
 intro e w1 h
 obtain ⟨rfl,hb⟩:=gB h
 rw [←zD.out]
 have dh:=aj (iF.out.call hb)
 have HB1:=aj (HB0.out.trans (hb.mono hz0))
 have hz1:W.heap.size≤w1.heap.size:=HB1.out.size
 clear h hb
 have vk:=dh.out.at_ 0 rfl
 have qH:=dh.out.at_ 1 rfl
 have nX:=dh.out.at_ 2 rfl
 have zo:=dh.out.at_ 4 rfl
 have FW:=dh.out.at_ 5 rfl
 have FV:=dh.out.at_ 6 rfl
 by_cases hf0:(s0:Int)≤l
 rotate_left
 ·rw [dF hf0]
  have HR:=aj (dF (l:=l) (s:=bW.sz ((L0,L1,L2,x3),L3,L4,L5,x7)) (by rw [HD.out];omega))
  go_wp2
  go_ret
  exact ⟨by first | (rw [HR.out];done) | (rw [HR.out];rfl),HB1.out⟩
 rw [dJ hf0]
 have Dp:(0:Int)≤l-(s0:Nat):=by omega
 go_wp2_with fail
 refine (Vp (l:=l-(s0:Nat)) (by omega) (by omega) ((Ag.out.below aK HB1.out).more aK hz1)).mono ?_
 intro e w2 h
 obtain ⟨rfl,hb⟩:=gB h
 rw [←wX.out]
 have iD:=aj (dh.out.call hb)
 have HB2:=aj (HB1.out.trans (hb.mono hz1))
 have hz2:W.heap.size≤w2.heap.size:=HB2.out.size
 clear h hb
 have CJ:=iD.out.at_ 0 rfl
 have CG:=iD.out.at_ 1 rfl
 have zn:=iD.out.at_ 2 rfl
 have O8:=iD.out.at_ 4 rfl
 have O7:=iD.out.at_ 5 rfl
 have O6:=iD.out.at_ 6 rfl
 by_cases hf1:(s1:Int)≤l-(s0:Nat)
 rotate_left
 ·rw [dF hf1]
  have HR:=aj (dF (l:=l) (s:=bW.sz ((L0,L1,L2,x3),L3,L4,L5,x7)) (by rw [HD.out];omega))
  go_wp2
  go_ret
  exact ⟨by first | (rw [HR.out];done) | (rw [HR.out];rfl),HB2.out⟩
 rw [dJ hf1]
 have aax:(0:Int)≤l-(s0:Nat)-(s1:Nat):=by omega
 go_wp2_with fail
 refine (Vm (l:=l-(s0:Nat)-(s1:Nat)) (by omega) (by omega) ((Af.out.below ay HB2.out).more ay hz2)).mono ?_
 intro e w3 h
 obtain ⟨rfl,hb⟩:=gB h
 rw [←HS2.out]
 have iT:=aj (iD.out.call hb)
 have HB3:=aj (HB2.out.trans (hb.mono hz2))
 have hz3:W.heap.size≤w3.heap.size:=HB3.out.size
 clear h hb
 have Eu:=iT.out.at_ 0 rfl
 have Et:=iT.out.at_ 1 rfl
 have Es:=iT.out.at_ 2 rfl
 have Sb:=iT.out.at_ 4 rfl
 have R9:=iT.out.at_ 5 rfl
 have JY:=iT.out.at_ 6 rfl
 by_cases hf2:(s2:Int)≤l-(s0:Nat)-(s1:Nat)
 rotate_left
 ·rw [dF hf2]
  have HR:=aj (dF (l:=l) (s:=bW.sz ((L0,L1,L2,x3),L3,L4,L5,x7)) (by rw [HD.out];omega))
  go_wp2
  go_ret
  exact ⟨by first | (rw [HR.out];done) | (rw [HR.out];rfl),HB3.out⟩
 rw [dJ hf2]
 have TT:(0:Int)≤l-(s0:Nat)-(s1:Nat)-(s2:Nat):=by omega
 go_wp2_with fail
 refine (Zc (l:=l-(s0:Nat)-(s1:Nat)-(s2:Nat)) (by omega) (by omega) ((Ae.out.below aT HB3.out).more aT hz3)).mono ?_
 intro e w4 h
 obtain ⟨rfl,hb⟩:=gB h
 rw [←zS.out]
 have kL:=aj (iT.out.call hb)
 have jU:=aj (HB3.out.trans (hb.mono hz3))
 have mP:W.heap.size≤w4.heap.size:=jU.out.size
 clear h hb
 have p4_0:=kL.out.at_ 0 rfl
 have p4_1:=kL.out.at_ 1 rfl
 have p4_2:=kL.out.at_ 2 rfl
 have p4_4:=kL.out.at_ 4 rfl
 have p4_5:=kL.out.at_ 5 rfl
 have p4_6:=kL.out.at_ 6 rfl
 by_cases hf3:(s3:Int)≤l-(s0:Nat)-(s1:Nat)-(s2:Nat)
 rotate_left
 ·rw [dF hf3]
  have HR:=aj (dF (l:=l) (s:=bW.sz ((L0,L1,L2,x3),L3,L4,L5,x7)) (by rw [HD.out];omega))
  go_wp2
  go_ret
  exact ⟨by first | (rw [HR.out];done) | (rw [HR.out];rfl),jU.out⟩
 rw [dJ hf3]
 have adr:(0:Int)≤l-(s0:Nat)-(s1:Nat)-(s2:Nat)-(s3:Nat):=by omega
 have HR:=aj (dJ (l:=l) (s:=bW.sz ((L0,L1,L2,x3),L3,L4,L5,x7)) (by rw [HD.out];omega))
 go_wp2
 go_ret
 exact ⟨by rw [HR.out,HD.out];first | rfl | (simp;done) | (simp;omega),jU.out⟩
theorem yH {w:World}{g:Nat}{v0 v1 v2 v3:Value}{t:TypeId}(h:aN w g t #[.slice none 0 0,.slice none 0 0,.slice none 0 0,.int .i64 0]):aN ((((w.setCell ⟨g,0,none⟩ v0).setCell ⟨g,1,none⟩ v1).setCell ⟨g,2,none⟩ v2).setCell ⟨g,3,none⟩ v3) g t #[v0,v1,v2,v3]:=aN.as ((((h.set 0 v0).set 1 v1).set 2 v2).set 3 v3) (by kernel_rfl)
theorem yG (w:World)(g:Nat)(v0 v1 v2 v3:Value):Off (fun x=>x=g) w ((((w.setCell ⟨g,0,none⟩ v0).setCell ⟨g,1,none⟩ v1).setCell ⟨g,2,none⟩ v2).setCell ⟨g,3,none⟩ v3):=(((((Off.refl (fun x=>x=g) w).setCell (p:=⟨g,0,none⟩) rfl v0).setCell (p:=⟨g,1,none⟩) rfl v1).setCell (p:=⟨g,2,none⟩) rfl v2).setCell (p:=⟨g,3,none⟩) rfl v3)
theorem iQ {w:World}{g:Nat}{v0 v1 v2 v3 v4 v5 v6 v7 v8 v9:Value}{t:TypeId}(h:aN w g t #[.slice none 0 0,.slice none 0 0,.slice none 0 0,.int .i64 0,.slice none 0 0,.slice none 0 0,.slice none 0 0,.int .i64 0,.int .i64 0,.int .i64 0]):aN ((((((((((w.setCell ⟨g,0,none⟩ v0).setCell ⟨g,1,none⟩ v1).setCell ⟨g,2,none⟩ v2).setCell ⟨g,3,none⟩ v3).setCell ⟨g,4,none⟩ v4).setCell ⟨g,5,none⟩ v5).setCell ⟨g,6,none⟩ v6).setCell ⟨g,7,none⟩ v7).setCell ⟨g,8,none⟩ v8).setCell ⟨g,9,none⟩ v9) g t #[v0,v1,v2,v3,v4,v5,v6,v7,v8,v9]:=aN.as ((((((((((h.set 0 v0).set 1 v1).set 2 v2).set 3 v3).set 4 v4).set 5 v5).set 6 v6).set 7 v7).set 8 v8).set 9 v9) (by kernel_rfl)
theorem iP (w:World)(g:Nat)(v0 v1 v2 v3 v4 v5 v6 v7 v8 v9:Value):Off (fun x=>x=g) w ((((((((((w.setCell ⟨g,0,none⟩ v0).setCell ⟨g,1,none⟩ v1).setCell ⟨g,2,none⟩ v2).setCell ⟨g,3,none⟩ v3).setCell ⟨g,4,none⟩ v4).setCell ⟨g,5,none⟩ v5).setCell ⟨g,6,none⟩ v6).setCell ⟨g,7,none⟩ v7).setCell ⟨g,8,none⟩ v8).setCell ⟨g,9,none⟩ v9):=(((((((((((Off.refl (fun x=>x=g) w).setCell (p:=⟨g,0,none⟩) rfl v0).setCell (p:=⟨g,1,none⟩) rfl v1).setCell (p:=⟨g,2,none⟩) rfl v2).setCell (p:=⟨g,3,none⟩) rfl v3).setCell (p:=⟨g,4,none⟩) rfl v4).setCell (p:=⟨g,5,none⟩) rfl v5).setCell (p:=⟨g,6,none⟩) rfl v6).setCell (p:=⟨g,7,none⟩) rfl v7).setCell (p:=⟨g,8,none⟩) rfl v8).setCell (p:=⟨g,9,none⟩) rfl v9)
theorem jA {B:Nat}{S:Nat→Prop}{W w w':World}(h:Below B W w)(ho:Off S w w')(hS:∀ k,S k→B≤k)(hB:B≤w.heap.size):Below B W w':=
 h.trans ⟨ho.os,ho.tape,ho.output,ho.size,fun k hk=>ho.block k (bV hk hB) (fun hs=>by have:=hS k hs;omega)⟩
theorem xG {α:Type}{E:Rp α}(hE:Ok E){w w':World}{T S:Nat→Prop}{L:List α}{a:Option Addr}{c:Nat}(h:bG E w T L a c)(ho:Off S w w')(hT:∀ q,T q→q<w.heap.size∧¬S q):bG E w' T L a c:=h.keep hE fun q hq=>ho.block q (hT q hq).1 (hT q hq).2
end
end Go.Proofs.YtlhfiapfncikdaaGreatDoor.aP
