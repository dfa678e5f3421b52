import Derived.Test.YtlhfiapfncikdaaGreatDoorPN16
import Derived.Test.YtlhfiapfncikdaaGreatDoorPN17
import Derived.Test.YtlhfiapfncikdaaGreatDoorPN18
set_option linter.unusedVariables false
set_option linter.unusedSimpArgs false
set_option maxRecDepth 100000
set_option maxHeartbeats 3200000
namespace Go.Proofs.YtlhfiapfncikdaaGreatDoor
namespace aQ
section
open Go.RowKit bN bO bJ bQ eO gB
def GK (L:List aF)(x:aF):Prop:=(L.length=0→JI x=1)∧∀ y,0<L.length→L[L.length-1]? = some y→AV y x
open Classical in
noncomputable def vT (L:List aF)(x:aF):Bool:=decide (GK L x)
open Classical in
theorem su {L:List aF}{x:aF}:vT L x=true↔GK L x:=by unfold vT;simp
theorem ET {L:List aF}{x:aF}{b:Bool}(h:b=true↔GK L x):vT L x=b:=by
 cases b <;> cases hn:vT L x
 ·rfl
 ·exact absurd (h.2 (su.1 hn)) (by decide)
 ·exact absurd (su.2 (h.1 rfl)) (by rw [hn];decide)
 ·rfl
theorem Me {L:List aF}{n:Nat}{a:Option Addr}{cap:Nat}{x0 x1 x2:Int}{x3:ByteArray}{x4 x5 x6 x7 x8 x9 x10 aS aV:Int}{M:List Int}{ba:Option Addr}{bc:Nat}{W:World}(hLn:L.length=n)(hid:∀ y,L[L.length-1]? = some y→1≤JI y∧JI y≤12)(h:aJ aI W W.heap.size L a cap) :
 Calls Tryz.prog 194 #[.slice a n cap,.agg #[.int .i64 x0,.int .i64 x1,.int .i64 x2,.string x3,.int .i64 x4,.int .i64 x5,.int .i64 x6,.int .i64 x7,.int .i64 x8,.int .i64 x9,.int .i64 x10,.int .i64 aS,.int .i64 aV,.slice ba M.length bc]] W fun e w'=>e=.returned (.bool (vT L ((x0,x1),x2,x3,x4,x5,x6,(x7,x8),x9,x10,aS,aV,M)))∧Below W.heap.size W w':=by
 subst hLn
 have hn:L.length≤9223372036854775807:=by have h1:=h.1;have h2:=h.2.1;unfold maxLen at h2;omega
 have H:=ak h
 have HID:=ak hid
 clear h hid
 obtain ⟨wo,hwo⟩:∃ w,w=W.alloc (.cells #[.int .i64 x0,.int .i64 x1,.int .i64 x2,.string x3,.int .i64 x4,.int .i64 x5,.int .i64 x6,.int .i64 x7,.int .i64 x8,.int .i64 x9,.int .i64 x10,.int .i64 aS,.int .i64 aV,.slice ba M.length bc] 72):=⟨_,rfl⟩
 have HB0:=ak (show Below W.heap.size W wo from by rw [hwo];exact (aW _ _).alloc (bK _) _)
 have gY:=ak (show aO wo W.heap.size 72 #[.int .i64 x0,.int .i64 x1,.int .i64 x2,.string x3,.int .i64 x4,.int .i64 x5,.int .i64 x6,.int .i64 x7,.int .i64 x8,.int .i64 x9,.int .i64 x10,.int .i64 aS,.int .i64 aV,.slice ba M.length bc] from by rw [hwo];exact aO.new _ _ _)
 have HA0:=ak ((H.out.below aA HB0.out).more aA HB0.out.size)
 by_cases h0:L.length=0
 ·have hd:((L.length:Int)==0)=true:=by simp [h0]
  obtain ⟨b,hb⟩:∃ b,(x2==1)=b:=⟨_,rfl⟩
  have HE:=ak (show vT L ((x0,x1),x2,x3,x4,x5,x6,(x7,x8),x9,x10,aS,aV,M)=b from ET (by
   rw [←hb,beq_iff_eq]
   exact ⟨fun h=>⟨fun _=>h,fun y h2=>by omega⟩,fun h=>h.1 h0⟩))
  rw [hwo] at HB0
  clear hwo h0 gY HA0
  go_enter Tryz.func194,Tryz.ntmps194
  go_wp2
  go_ret
  exact ⟨by rw [HE.out];rfl,HB0.out⟩
 ·have hd:((L.length:Int)==0)=false:=by simp;exact fun h=>h0 (by simp [h])
  obtain ⟨j,hj⟩:∃ j,L.length=j+1:=⟨L.length-1,by omega⟩
  obtain ⟨⟨⟨y0,y1⟩,y2,y3,y4,y5,y6,⟨y7,y8⟩,y9,Ms,JG,RS,N⟩,hy⟩:=aM (show j<L.length by omega)
  have HY:=ak (show L[L.length-1]? = some ((y0,y1),y2,y3,y4,y5,y6,(y7,y8),y9,Ms,JG,RS,N) from by rw [hj,Nat.add_sub_cancel];exact hy)
  have hjs:(L.length:Int)-1=(j:Int):=by omega
  have hj0:(0:Int)≤(j:Int):=eu _
  have hj1:(j:Int)<(L.length:Int):=by omega
  have XF:IntKind.i64.wrap (j:Int)=(j:Int):=gK _ (by omega)
  obtain ⟨g,o,us,rfl,hg,hu,hr⟩:=HA0.out.at_ hy
  obtain ⟨da,dc,rfl,k_N,b_y3⟩:=fA hr
  obtain ⟨e0,e1,e2,e3,e4,e5,e6,e7,e8,e9,e10,e11,e12,e13⟩:=kY (a:=o+j*14) hu rfl
  have hy2:1≤y2∧y2≤12:=HID.out _ HY.out
  have hyw:IntKind.i64.wrap (y2+1)=y2+1:=gK _ (by omega)
  have HL0:=ak h0
  have HU:=ak (fun (y:aF) (hy:L[L.length-1]? = some y)=>(fC (HY.out.symm.trans hy)))
  obtain ⟨w1,hw1⟩:∃ w,w=wo.alloc (.cells #[.int .i64 y0,.int .i64 y1,.int .i64 y2,.string y3,.int .i64 y4,.int .i64 y5,.int .i64 y6,.int .i64 y7,.int .i64 y8,.int .i64 y9,.int .i64 Ms,.int .i64 JG,.int .i64 RS,.slice da N.length dc] 72):=⟨_,rfl⟩
  have hb1:Below wo.heap.size wo w1:=by rw [hw1];exact (aW _ _).alloc (bK _) _
  have HB1:=ak (HB0.out.trans (hb1.mono HB0.out.size))
  have HPX:=ak (gY.out.call hb1)
  have HPY:=ak (show aO w1 wo.heap.size 72 #[.int .i64 y0,.int .i64 y1,.int .i64 y2,.string y3,.int .i64 y4,.int .i64 y5,.int .i64 y6,.int .i64 y7,.int .i64 y8,.int .i64 y9,.int .i64 Ms,.int .i64 JG,.int .i64 RS,.slice da N.length dc] from by rw [hw1];exact aO.new _ _ _)
  obtain ⟨a0,a1,a2⟩:=HPX.out.pz rfl
  obtain ⟨c0,c1,c2⟩:=HPY.out.pz rfl
  obtain ⟨b,hb⟩:∃ b,decide (((x0,x1):Int×Int)=(y0,y1))=b:=⟨_,rfl⟩
  have hq:=iK x0 x1 y0 y1 b hb
  have HQ:=ak hb
  clear hb hy hg hu hr k_N hb1 h0 hj
  cases b with
  | true=>
   obtain ⟨c,hc⟩:∃ c,(x2==y2+1)=c:=⟨_,rfl⟩
   have HE:=ak (show vT L ((x0,x1),x2,x3,x4,x5,x6,(x7,x8),x9,x10,aS,aV,M)=c from ET (by
    rw [←hc,beq_iff_eq]
    have e:((x0,x1):ay)=(y0,y1):=of_decide_eq_true HQ.out
    refine ⟨fun h=>⟨fun h2=>absurd h2 HL0.out,fun y _ hy=>by rw [←HU.out y hy];exact .inl ⟨e.symm,h⟩⟩,fun h=>?_⟩
    rcases h.2 _ (by have:=HL0.out;omega) HY.out with h2 | h2
    ·exact h2.2
    ·have h3:jY (y0,y1) (x0,x1):=h2.1
     rw [e] at h3
     exact absurd h3 iH))
   go_enter Tryz.func194,Tryz.ntmps194
   go_upto_region 1 with fail
   rw [←hwo]
   clear hwo
   go_upto_region 4 with fail
   rw [←hw1]
   clear hw1 e0 e1 e2 e3 e4 e5 e6 e7 e8 e9 e10 e11 e12 e13
   go_wp2
   go_ret
   exact ⟨by rw [HE.out];rfl,HB1.out⟩
  | false=>
   obtain ⟨r,MC⟩:∃ r,jT y0 y1 x0 x1=r:=⟨_,rfl⟩
   have hC:=fun V=>O5 y0 y1 x0 x1 V
   rw [MC] at hC
   have HRL:=ak (show r<0↔jY (y0,y1) (x0,x1) from by
    rcases aaH y0 y1 x0 x1 with ⟨e1,h1⟩ | ⟨e1,h1⟩ | ⟨e1,h1⟩
    ·rw [←MC,e1];simp [h1]
    ·exact absurd h1.symm (of_decide_eq_false HQ.out)
    ·rw [←MC,e1]
     exact ⟨fun h=>by omega,fun h=>absurd (qd h h1) iH⟩)
   obtain ⟨f,hf⟩:∃ f,decide (r<0)=f:=⟨_,rfl⟩
   obtain ⟨c,hc⟩:∃ c,(x2==1)=c:=⟨_,rfl⟩
   have HE:=ak (show vT L ((x0,x1),x2,x3,x4,x5,x6,(x7,x8),x9,x10,aS,aV,M)=(f&&c) from ET (by
    rw [←hf,←hc]
    simp only [Bool.and_eq_true,decide_eq_true_eq,beq_iff_eq]
    refine ⟨fun h=>⟨fun h2=>absurd h2 HL0.out,fun y _ hy=>by rw [←HU.out y hy];exact .inr ⟨HRL.out.1 h.1,h.2⟩⟩,fun h=>?_⟩
    rcases h.2 _ (by have:=HL0.out;omega) HY.out with h2 | h2
    ·exact absurd h2.1.symm (of_decide_eq_false HQ.out)
    ·exact ⟨HRL.out.2 h2.1,h2.2⟩))
   clear MC
   go_enter Tryz.func194,Tryz.ntmps194
   go_upto_region 1 with fail
   rw [←hwo]
   clear hwo
   go_upto_region 4 with fail
   rw [←hw1]
   clear hw1 e0 e1 e2 e3 e4 e5 e6 e7 e8 e9 e10 e11 e12 e13
   go_wp2_with fail
   refine (hC _).mono ?_
   rintro e w2 ⟨rfl,hb⟩
   have HB2:=ak (HB1.out.trans (hb.mono HB1.out.size))
   have HPX2:=ak (HPX.out.call hb)
   clear hb a0 a1 a2 c0 c1 c2
   have a2:=HPX2.out.at_ 2 rfl
   cases f with
   | false=>
    go_wp2
    go_ret
    exact ⟨by rw [HE.out];rfl,HB2.out⟩
   | true=>
    go_wp2
    go_ret
    exact ⟨by rw [HE.out];rfl,HB2.out⟩
theorem Vz {L:List aF}{n:Nat}{a:Option Addr}{cap:Nat}{y0 y1 y2:Int}{W:World}(hLn:L.length=n)(hn:L.length≤1048576)(hI:qN L L.length)(h:aJ aI W W.heap.size L a cap) :
 Calls Tryz.prog 195 #[.slice a n cap,.agg #[.int .i64 y0,.int .i64 y1],.int .i64 y2] W fun e w'=>e=.returned (.int .i64 (vF L ((y0,y1),y2)))∧Below W.heap.size W w':=by
 subst hLn
 exact IW hn hI h
theorem KJ {L:List aF}{a:Option Addr}{cap:Nat}{W:World}(h:aJ aI W W.heap.size L a cap) :
 Calls Tryz.prog 132 #[.slice a L.length cap] W (sS (oH L) W):=by
 refine Calls.mono ?_ fun e w' h=>rT jo h
 have hn:L.length≤9223372036854775807:=by have h1:=h.1;have h2:=h.2.1;unfold maxLen at h2;omega
 have H:=ak h
 clear h
 by_cases h96:L.length≤96
 rotate_left
 ·have HN:=ak (show ¬pQ L from fun h=>h96 h.1)
  have hd:decide ((96:Int)<(L.length:Int))=true:=eD (by omega)
  go_enter Tryz.func132,Tryz.ntmps132
  go_wp2
  go_ret
  exact aB HN.out (aW _ _)
 have hd:decide ((96:Int)<(L.length:Int))=false:=dS (by omega)
 go_enter Tryz.func132,Tryz.ntmps132
 go_wp2
 go_loopw [10] (fun i wr=>∃ k:Nat,k≤L.length∧i=.int .i64 k∧Hid (Ar L k)∧Below W.heap.size W wr) (fun i _=>L.length-(intOf i).toNat)
 case atStart=>exact ⟨0,dV _,rfl,ak BG,aW _ _⟩
 case round=>
  obtain ⟨k,hk,rfl,HO,hB⟩:=hrel
  have HB:=ak hB
  have hsz:=hB.size
  by_cases hlt:k<L.length
  ·skip
   obtain ⟨⟨⟨x0,x1⟩,x2,x3,x4,x5,x6,⟨x7,x8⟩,x9,x10,aS,aV,M⟩,hx⟩:=aM hlt
   have HX:=ak hx
   obtain ⟨g,o,us,rfl,hg,hu,hr⟩:=(H.out.below aA hB).at_ hx
   have HRX:=ak hr
   obtain ⟨ba,bc,rfl,sP,fH⟩:=fA hr
   obtain ⟨e0,e1,e2,e3,e4,e5,e6,e7,e8,e9,e10,e11,e12,e13⟩:=kY (a:=o+k*14) hu rfl
   have hi0:(0:Int)≤(k:Int):=eu _
   have hi1:(k:Int)<(L.length:Int):=by omega
   obtain ⟨w1,hw1⟩:∃ w,w=wr.alloc (.cells #[.int .i64 x0,.int .i64 x1,.int .i64 x2,.string x3,.int .i64 x4,.int .i64 x5,.int .i64 x6,.int .i64 x7,.int .i64 x8,.int .i64 x9,.int .i64 x10,.int .i64 aS,.int .i64 aV,.slice ba M.length bc] 72):=⟨_,rfl⟩
   have iE:Below wr.heap.size wr w1:=by rw [hw1];exact (aW _ _).alloc (bK _) _
   have cZ:=ak (show aO w1 wr.heap.size 72 #[.int .i64 x0,.int .i64 x1,.int .i64 x2,.string x3,.int .i64 x4,.int .i64 x5,.int .i64 x6,.int .i64 x7,.int .i64 x8,.int .i64 x9,.int .i64 x10,.int .i64 aS,.int .i64 aV,.slice ba M.length bc] from by rw [hw1];exact aO.new _ _ _)
   have HB1:=ak (HB.out.trans (iE.mono hsz))
   have HR1:=ak ((aA.fG HRX.out (iE.mono hsz) |> fun h=>aA.jy h (eF hsz iE.size)))
   have HA1:=ak (((H.out.below aA HB1.out).more aA HB1.out.size).take k)
   have hTL:=ak (show (L.take k).length=k from by rw [List.length_take];omega)
   have hkc:k≤cap:=by have h8:=H.out.1;omega
   have hTN:(L.take k).length≤1048576:=by rw [hTL.out];omega
   have HLY:=ak (show ∀ y,(L.take k)[(L.take k).length-1]? = some y→1≤JI y∧JI y≤12 from fun y hy=>by
    rw [List.getElem?_take] at hy
    split at hy
    ·rename_i h5
     exact (HO.out _ y h5 hy).1.id
    ·cases hy)
   have HIN:=ak ((DL HO.out hk).take (bK _) hk)
   have HNP:=ak (show GK (L.take k) ((x0,x1),x2,x3,x4,x5,x6,(x7,x8),x9,x10,aS,aV,M)↔((k=0→JI ((x0,x1),x2,x3,x4,x5,x6,(x7,x8),x9,x10,aS,aV,M)=1)∧∀ y,0<k→L[k-1]? = some y→AV y ((x0,x1),x2,x3,x4,x5,x6,(x7,x8),x9,x10,aS,aV,M)) from by
    unfold GK
    rw [hTL.out]
    refine and_congr Iff.rfl (forall_congr' fun y=>?_)
    constructor
    ·intro h h1 h2;exact h h1 (by rw [List.getElem?_take,if_pos (by omega)];exact h2)
    ·intro h h1 h2;rw [List.getElem?_take,if_pos (by omega)] at h2;exact h h1 h2)
   clear hu hr hg hB hx sP
   go_upto_region 6 with fail
   rw [←hw1]
   clear hw1 iE e0 e1 e2 e3 e4 e5 e6 e7 e8 e9 e10 e11 e12 e13
   cases hT:Dr ((x0,x1),x2,x3,x4,x5,x6,(x7,x8),x9,x10,aS,aV,M) with
   | false=>
    have HN:=ak (iC HX.out fun h=>by have h2:=lN.2 h.1;rw [hT] at h2;cases h2)
    have hTI:=fun V (h:aI.rd V V.heap.size ((x0,x1),x2,x3,x4,x5,x6,(x7,x8),x9,x10,aS,aV,M) [.int .i64 x0,.int .i64 x1,.int .i64 x2,.string x3,.int .i64 x4,.int .i64 x5,.int .i64 x6,.int .i64 x7,.int .i64 x8,.int .i64 x9,.int .i64 x10,.int .i64 aS,.int .i64 aV,.slice ba M.length bc])=>NK h
    rw [hT] at hTI
    clear hT
    refine dX (S:=(fun V=>Below (w1).heap.size (w1) V)) (by kernel_rfl) ((aW _ _).drew) (fun ah=>?_)
    refine tk 0 ah ?_ (hy:=fun w aj=>by (try dsimp only at aj);have k0:=cZ.out.hat aj 0 rfl;have k1:=cZ.out.hat aj 1 rfl;have k2:=cZ.out.hat aj 2 rfl;have k3:=cZ.out.hat aj 3 rfl;have k4:=cZ.out.hat aj 4 rfl;have k5:=cZ.out.hat aj 5 rfl;have k6:=cZ.out.hat aj 6 rfl;have k7:=cZ.out.hat aj 7 rfl;have k8:=cZ.out.hat aj 8 rfl;have k9:=cZ.out.hat aj 9 rfl;have k10:=cZ.out.hat aj 10 rfl;have k11:=cZ.out.hat aj 11 rfl;have k12:=cZ.out.hat aj 12 rfl;have k13:=cZ.out.hat aj 13 rfl;clear aj;go_simp;try with_reducible rfl)
    refine dw 1 (fun K hK=>?_)
    go_simp
    go_at_call 193
    refine (hTI _ (aA.jy (aA.fG HR1.out ah) ah.size)).mono ?_
    rintro e w2 ⟨rfl,hb⟩
    refine hK.out _ _ (ah.trans (hb.mono ah.size)) (fun ah=>?_)
    clear hK K hb
    refine tk 2 ah ?_
    refine tk 3 ah ?_
    refine tn 4 ah ?_
    refine tn 5 ah ?_
    refine tn 6 ah ?_
    refine tn 7 ah ?_
    refine tn 8 ah ?_
    refine tn 9 ah ?_
    refine tk 10 ah ?_
    refine dQ ?_
    have HF:=ak ah
    clear ah
    have HB2:=ak (HB1.out.trans (HF.out.mono HB1.out.size))
    go_wp2
    go_ret
    exact aB HN.out HB2.out
   | true=>
   have HT:=ak (lN.1 hT)
   have hTI:=fun V (h:aI.rd V V.heap.size ((x0,x1),x2,x3,x4,x5,x6,(x7,x8),x9,x10,aS,aV,M) [.int .i64 x0,.int .i64 x1,.int .i64 x2,.string x3,.int .i64 x4,.int .i64 x5,.int .i64 x6,.int .i64 x7,.int .i64 x8,.int .i64 x9,.int .i64 x10,.int .i64 aS,.int .i64 aV,.slice ba M.length bc])=>NK h
   rw [hT] at hTI
   clear hT
   have hCM:=fun V h=>Me (W:=V) (a:=some ⟨g,o,none⟩) (cap:=cap) (x0:=x0) (x1:=x1) (x2:=x2) (x3:=x3) (x4:=x4) (x5:=x5) (x6:=x6) (x7:=x7) (x8:=x8) (x9:=x9) (x10:=x10) (aS:=aS) (aV:=aV) (M:=M) (ba:=ba) (bc:=bc) hTL.out HLY.out h
   cases hN:vT (L.take k) ((x0,x1),x2,x3,x4,x5,x6,(x7,x8),x9,x10,aS,aV,M) with
   | false=>
    have HN:=ak (iC HX.out fun h=>by have h2:=su.2 (HNP.out.2 ⟨h.2.1,h.2.2.1⟩);rw [hN] at h2;cases h2)
    rw [hN] at hCM
    clear hN
    refine dX (S:=(fun V=>Below (w1).heap.size (w1) V)) (by kernel_rfl) ((aW _ _).drew) (fun ah=>?_)
    refine tk 0 ah ?_ (hy:=fun w aj=>by (try dsimp only at aj);have k0:=cZ.out.hat aj 0 rfl;have k1:=cZ.out.hat aj 1 rfl;have k2:=cZ.out.hat aj 2 rfl;have k3:=cZ.out.hat aj 3 rfl;have k4:=cZ.out.hat aj 4 rfl;have k5:=cZ.out.hat aj 5 rfl;have k6:=cZ.out.hat aj 6 rfl;have k7:=cZ.out.hat aj 7 rfl;have k8:=cZ.out.hat aj 8 rfl;have k9:=cZ.out.hat aj 9 rfl;have k10:=cZ.out.hat aj 10 rfl;have k11:=cZ.out.hat aj 11 rfl;have k12:=cZ.out.hat aj 12 rfl;have k13:=cZ.out.hat aj 13 rfl;clear aj;go_simp;try with_reducible rfl)
    refine dw 1 (fun K hK=>?_)
    go_simp
    go_at_call 193
    refine (hTI _ (aA.jy (aA.fG HR1.out ah) ah.size)).mono ?_
    rintro e w2 ⟨rfl,hb⟩
    refine hK.out _ _ (ah.trans (hb.mono ah.size)) (fun ah=>?_)
    clear hK K hb
    refine tk 2 ah ?_
    refine tk 3 ah ?_
    refine tk 4 ah ?_
    refine tk 5 ah ?_
    refine tk 6 ah ?_
    refine tk 7 ah ?_ (hy:=fun w aj=>by (try dsimp only at aj);have k0:=cZ.out.hat aj 0 rfl;have k1:=cZ.out.hat aj 1 rfl;have k2:=cZ.out.hat aj 2 rfl;have k3:=cZ.out.hat aj 3 rfl;have k4:=cZ.out.hat aj 4 rfl;have k5:=cZ.out.hat aj 5 rfl;have k6:=cZ.out.hat aj 6 rfl;have k7:=cZ.out.hat aj 7 rfl;have k8:=cZ.out.hat aj 8 rfl;have k9:=cZ.out.hat aj 9 rfl;have k10:=cZ.out.hat aj 10 rfl;have k11:=cZ.out.hat aj 11 rfl;have k12:=cZ.out.hat aj 12 rfl;have k13:=cZ.out.hat aj 13 rfl;clear aj;go_simp;try with_reducible rfl)
    refine dw 8 (fun K hK=>?_)
    go_simp
    go_at_call 194
    refine (hCM _ ((HA1.out.below aA ah).more aA ah.size)).mono ?_
    rintro e w3 ⟨rfl,hb⟩
    refine hK.out _ _ (ah.trans (hb.mono ah.size)) (fun ah=>?_)
    clear hK K hb
    refine tk 9 ah ?_
    refine tk 10 ah ?_
    refine dQ ?_
    have HF:=ak ah
    clear ah
    have HB2:=ak (HB1.out.trans (HF.out.mono HB1.out.size))
    go_wp2
    go_ret
    exact aB HN.out HB2.out
   | true=>
   have Po:=ak (HNP.out.1 (su.1 hN))
   rw [hN] at hCM
   clear hN
   refine dX (S:=(fun V=>Below (w1).heap.size (w1) V)) (by kernel_rfl) ((aW _ _).drew) (fun ah=>?_)
   refine tk 0 ah ?_ (hy:=fun w aj=>by (try dsimp only at aj);have k0:=cZ.out.hat aj 0 rfl;have k1:=cZ.out.hat aj 1 rfl;have k2:=cZ.out.hat aj 2 rfl;have k3:=cZ.out.hat aj 3 rfl;have k4:=cZ.out.hat aj 4 rfl;have k5:=cZ.out.hat aj 5 rfl;have k6:=cZ.out.hat aj 6 rfl;have k7:=cZ.out.hat aj 7 rfl;have k8:=cZ.out.hat aj 8 rfl;have k9:=cZ.out.hat aj 9 rfl;have k10:=cZ.out.hat aj 10 rfl;have k11:=cZ.out.hat aj 11 rfl;have k12:=cZ.out.hat aj 12 rfl;have k13:=cZ.out.hat aj 13 rfl;clear aj;go_simp;try with_reducible rfl)
   refine dw 1 (fun K hK=>?_)
   go_simp
   go_at_call 193
   refine (hTI _ (aA.jy (aA.fG HR1.out ah) ah.size)).mono ?_
   rintro e w2 ⟨rfl,hb⟩
   refine hK.out _ _ (ah.trans (hb.mono ah.size)) (fun ah=>?_)
   clear hK K hb
   refine tk 2 ah ?_
   refine tk 3 ah ?_
   refine tk 4 ah ?_
   refine tk 5 ah ?_
   refine tk 6 ah ?_
   refine tk 7 ah ?_ (hy:=fun w aj=>by (try dsimp only at aj);have k0:=cZ.out.hat aj 0 rfl;have k1:=cZ.out.hat aj 1 rfl;have k2:=cZ.out.hat aj 2 rfl;have k3:=cZ.out.hat aj 3 rfl;have k4:=cZ.out.hat aj 4 rfl;have k5:=cZ.out.hat aj 5 rfl;have k6:=cZ.out.hat aj 6 rfl;have k7:=cZ.out.hat aj 7 rfl;have k8:=cZ.out.hat aj 8 rfl;have k9:=cZ.out.hat aj 9 rfl;have k10:=cZ.out.hat aj 10 rfl;have k11:=cZ.out.hat aj 11 rfl;have k12:=cZ.out.hat aj 12 rfl;have k13:=cZ.out.hat aj 13 rfl;clear aj;go_simp;try with_reducible rfl)
   refine dw 8 (fun K hK=>?_)
   go_simp
   go_at_call 194
   refine (hCM _ ((HA1.out.below aA ah).more aA ah.size)).mono ?_
   rintro e w3 ⟨rfl,hb⟩
   refine hK.out _ _ (ah.trans (hb.mono ah.size)) (fun ah=>?_)
   clear hK K hb
   refine tk 9 ah ?_
   refine tk 10 ah ?_
   refine dQ ?_
   have HF:=ak ah
   clear ah
   have HB2:=ak (HB1.out.trans (HF.out.mono HB1.out.size))
   have iD:=ak (cZ.out.call HF.out)
   have HA2:=ak ((HA1.out.below aA HF.out).more aA HF.out.size)
   clear HF
   by_cases h9:x9=0
   ·have XJ:(x9 != 0)=false:=by simp [h9]
    have HS:=ak (jq HO.out HX.out ⟨HT.out,Po.out.1,Po.out.2,fun h=>absurd h9 h⟩)
    clear h9
    go_wp2_with fail
    refine dX (S:=(fun V=>Below (w3).heap.size (w3) V)) (by kernel_rfl) ((aW _ _).drew) (fun ah=>?_)
    refine tk 0 ah ?_
    refine tk 1 ah ?_ (hy:=fun w aj=>by (try dsimp only at aj);have k0:=iD.out.hat aj 9 rfl;clear aj;go_simp;try with_reducible rfl)
    refine tk 2 ah ?_
    refine tk 3 ah ?_
    refine tn 4 ah ?_
    refine tn 5 ah ?_
    refine tn 6 ah ?_
    refine tn 7 ah ?_
    refine tn 8 ah ?_
    refine tn 9 ah ?_
    refine tn 10 ah ?_
    refine tn 11 ah ?_
    refine tn 12 ah ?_
    refine tk 13 ah ?_
    refine dQ ?_
    have HF:=ak ah
    clear ah
    have gU:=ak (HB2.out.trans (HF.out.mono HB2.out.size))
    go_wp2
    go_roundw
    case rel=>exact ⟨k+1,by omega,by go_num,HS,by first | exact gU.out | exact gU.out.drew | exact fD gU.out _⟩
    case measure=>simp [intOf];omega
   ·have XJ:(x9 != 0)=true:=by simp [h9]
    have H9:=ak h9
    clear h9
    obtain ⟨b,xE⟩:∃ b,decide (vF (L.take k) ((x7,x8),x9)<0)=b:=⟨_,rfl⟩
    have mY:=ak xE
    go_wp2_with fail
    refine dX (S:=(fun V=>Below (w3).heap.size (w3) V)) (by kernel_rfl) ((aW _ _).drew) (fun ah=>?_)
    refine tk 0 ah ?_
    refine tk 1 ah ?_ (hy:=fun w aj=>by (try dsimp only at aj);have k0:=iD.out.hat aj 9 rfl;clear aj;go_simp;try with_reducible rfl)
    refine tk 2 ah ?_
    refine tk 3 ah ?_
    refine tk 4 ah ?_
    refine tk 5 ah ?_
    refine tk 6 ah ?_
    refine tk 7 ah ?_
    refine tk 8 ah ?_ (hy:=fun w aj=>by (try dsimp only at aj);have k0:=iD.out.hat aj 7 rfl;have k1:=iD.out.hat aj 8 rfl;clear aj;go_simp;try with_reducible rfl)
    refine tk 9 ah ?_
    refine tk 10 ah ?_ (hy:=fun w aj=>by (try dsimp only at aj);have k0:=iD.out.hat aj 9 rfl;clear aj;go_simp;try with_reducible rfl)
    refine dw 11 (fun K hK=>?_)
    go_simp
    go_at_call 195
    refine (Vz hTL.out hTN HIN.out ((HA2.out.below aA ah).more aA ah.size)).mono ?_
    rintro e w12 ⟨rfl,hb⟩
    refine hK.out _ _ (ah.trans (hb.mono ah.size)) (fun ah=>?_)
    clear hK K hb
    refine tk 12 ah ?_
    refine tk 13 ah ?_
    refine dQ ?_
    have HF:=ak ah
    clear ah
    have gU:=ak (HB2.out.trans (HF.out.mono HB2.out.size))
    cases b with
    | true=>
     have HN:=ak (iC HX.out fun h=>by have h2:=h.2.2.2 H9.out;have h3:=of_decide_eq_true mY.out;exact absurd h2 (by show ¬0≤vF (L.take k) ((x7,x8),x9);omega))
     go_wp2
     go_ret
     exact aB HN.out gU.out
    | false=>
     have HS:=ak (jq HO.out HX.out ⟨HT.out,Po.out.1,Po.out.2,fun _=>by have h3:=of_decide_eq_false mY.out;show 0≤vF (L.take k) ((x7,x8),x9);omega⟩)
     go_wp2
     go_roundw
     case rel=>exact ⟨k+1,by omega,by go_num,HS,by first | exact gU.out | exact gU.out.drew | exact fD gU.out _⟩
     case measure=>simp [intOf];omega
  ·have hdl:decide ((k:Int)<(L.length:Int))=false:=dS (by omega)
   obtain rfl:k=L.length:=by omega
   have HY:=ak (BD h96 HO.out)
   clear hB
   go_wp2
   go_ret
   exact bM HY.out HB.out
end
section
open Go.RowKit bN bO bJ bQ eO
theorem aar {L:List aF}{k:Nat}{x:aF}(hsz:(Sl aI).sz L≤1048576)(hx:L[k]? = some x):(U5 x).size≤1048576∧(jF x).length≤1048576:=by
 have h1:=vS (f:=aI.sz) hx hsz
 rw [NM] at h1
 omega
theorem KN {α:Type}{L:List α}{k:Nat}{x:α}(h:L[k]? = some x):L.take k++[x]=L.take (k+1):=by rw [List.take_add_one,h,Option.toList_some]
theorem og {L:List aF}{a:Option Addr}{cap:Nat}{W:World}(hn:L.length≤4096)(hsz:(Sl aI).sz L≤1048576)(h:aJ aI W W.heap.size L a cap) :
 Calls Tryz.prog 111 #[.slice a L.length cap] W (jU aI L W):=by
 have H:=ak h
 have nI:=ak hsz
 clear h hsz
 obtain ⟨w0,hw0⟩:∃ w,w=W.alloc (.cells #[] 72):=⟨_,rfl⟩
 have hb0:Below W.heap.size W w0:=by rw [hw0];exact (aW _ _).alloc (bK _) _
 have Ab:=ak (show gW aI w0 W.heap.size 72 (.slice (some ⟨W.heap.size,0,none⟩) 0 0) [] from by rw [hw0];exact gW.made _ _ _)
 have HB0:=ak hb0
 clear hb0
 go_enter Tryz.func111,Tryz.ntmps111
 go_wp2
 rw [←hw0]
 clear hw0
 go_loopw [4,3] (fun i v wr=>∃ k:Nat,k≤L.length∧i=.int .i64 k∧Hid (gW aI wr W.heap.size 72 v (L.take k))∧Below W.heap.size W wr) (fun i _ _=>L.length-(intOf i).toNat)
 case atStart=>exact ⟨0,dV _,rfl,Ab,HB0.out⟩
 case round=>
  obtain ⟨k,hk,rfl,HR,hB⟩:=hrel
  have HB:=ak hB
  have hsz:=hB.size
  obtain ⟨va,vc,hv⟩:=HR.out.isSlice
  rw [List.length_take,Nat.min_eq_left hk] at hv
  subst hv
  by_cases hlt:k<L.length
  ·obtain ⟨⟨⟨x0,x1⟩,x2,x3,x4,x5,x6,⟨x7,x8⟩,x9,x10,aS,aV,M⟩,hx⟩:=aM hlt
   have HT:=ak (KN hx)
   have HSI:=ak (aar nI.out hx)
   obtain ⟨g,o,us,rfl,hg,hu,hr⟩:=(H.out.below aA hB).at_ hx
   obtain ⟨ba,bc,rfl,sP,fH⟩:=fA hr
   obtain ⟨e0,e1,e2,e3,e4,e5,e6,e7,e8,e9,e10,e11,e12,e13⟩:=kY (a:=o+k*14) hu rfl
   have hi0:(0:Int)≤(k:Int):=eu _
   have hi1:(k:Int)<(L.length:Int):=by omega
   have HK:=ak (sP.more cK hsz)
   have MU:=ak fH
   clear hu hr hg hB hx sP
   go_wp2_with fail
   refine (Mc MU.out HSI.out.2 HK.out).mono ?_
   intro e w1 h
   obtain ⟨us,rfl,hu,hbC⟩:=bY h
   obtain ⟨a5,c5,T5,rfl,hT,ho,_⟩:=nP hu
   obtain ⟨w7,hw7⟩:∃ w,w=w1.alloc (.cells #[.int .i64 x0,.int .i64 x1,.int .i64 x2,.string x3,.int .i64 x4,.int .i64 x5,.int .i64 x6,.int .i64 x7,.int .i64 x8,.int .i64 x9,.int .i64 x10,.int .i64 aS,.int .i64 aV,.slice a5 M.length c5] 72):=⟨_,rfl⟩
   have Cw:Below w1.heap.size w1 w7:=by rw [hw7];exact (aW _ _).alloc (bK _) _
   have hbl:aO w7 w1.heap.size 72 #[.int .i64 x0,.int .i64 x1,.int .i64 x2,.string x3,.int .i64 x4,.int .i64 x5,.int .i64 x6,.int .i64 x7,.int .i64 x8,.int .i64 x9,.int .i64 x10,.int .i64 aS,.int .i64 aV,.slice a5 M.length c5]:=by rw [hw7];exact aO.new _ _ _
   have hbr7:Below wr.heap.size wr w7:=hbC.trans (Cw.mono hbC.size)
   have how:=aA.pU (aA.bT hu fun q hq=>Cw.block q hq.2) (fun q hq=>(⟨hq.1,bV hq.2 Cw.size⟩:Rg wr.heap.size w7.heap.size q))
   obtain ⟨a3,c3,w8,hrun,hrow,ME⟩:=Xf HR.out hbr7 hbl how (by rw [List.length_take];omega)
   have Gr:=ak hrun
   rw [hw7] at Gr
   have Pv:=ak ((HB.out.trans (hbr7.mono hsz)).trans ME)
   have hlen:(L.take (k+1)).length=k+1:=by rw [List.length_take];omega
   rw [HT.out,hlen] at hrow Gr
   have HRW:=ak hrow
   clear hrun hrow ME how hbr7 hbl Cw hw7 hlen h hu hT ho hbC fH e0 e1 e2 e3 e4 e5 e6 e7 e8 e9 e10 e11 e12 e13
   go_wp2_with (at_builtin;refine dZ rfl (.tmp 12) (.tmp 18) 41 rfl rfl rfl Gr.out ?_)
   go_roundw
   case rel=>exact ⟨k+1,by omega,by go_num,HRW,Pv.out⟩
   case measure=>simp [intOf];omega
  ·have hdl:decide ((k:Int)<(L.length:Int))=false:=dS (by omega)
   obtain rfl:k=L.length:=by omega
   have HR2:=ak (show gW aI wr W.heap.size 72 (.slice va L.length vc) L from by have:=HR.out;rwa [List.take_length] at this)
   clear hB
   go_wp2
   go_ret
   exact HR2.out.news aA (bK _) HB.out
end
end aQ
end Go.Proofs.YtlhfiapfncikdaaGreatDoor
