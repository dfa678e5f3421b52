import Derived.Test.YtlhfiapfncikdaaGreatDoorPU21
import Derived.Test.YtlhfiapfncikdaaGreatDoorPU33
import Derived.Test.YtlhfiapfncikdaaGreatDoorPU34
set_option linter.unusedVariables false
set_option linter.unusedSimpArgs false
set_option maxRecDepth 100000
set_option maxHeartbeats 3200000
namespace Go.Proofs.YtlhfiapfncikdaaGreatDoor.aP
section
open Go.RowKit bN bP bJ bM xu Xe
theorem Wy {L:List aO}{n fZ:Int}(h:iX L=true):(kM L n true (j5 fZ)).2=0∨(kM L n true (j5 fZ)).2=1∨6≤(kM L n true (j5 fZ)).2∧(kM L n true (j5 fZ)).2≤11:=by
 have h4:¬400<L.length:=by have:=(gF.1 h).1.2;omega
 have h2:(iX L&&true)=true:=by rw [h];rfl
 by_cases h3:dI n 0 ((L.length:Int)-1)=true
 ·have hn:=(dG _ _ _).1 h3
  obtain ⟨m,rfl⟩:∃ m:Nat,n=m:=⟨n.toNat,by omega⟩
  obtain ⟨x,hx⟩:=aL (show m<L.length by omega)
  rw [ER h4 h2 hx]
  unfold j5
  split <;> simp
 ·rw [yg h4 h2 (by simpa using h3)]
  right;right;decide
noncomputable def gY (y:dK)(n fZ:Int):dZ:=vH y (kM y.2.1 n true (j5 fZ)).1 (kM y.2.1 n true (j5 fZ)).2
theorem Iw {a:Nat→Addr}{lo g:Nat}{w:World}{y:dK}{n fZ:Int}(hD:oI 7 w a)(h0:-9223372036854775808≤n)(h1:n≤9223372036854775807)(hY:iq y)(hK:R3 lo w g y 0) :
 Calls Tryz.prog 59 #[.pointer (some ⟨g,0,none⟩),.int .i64 n,.int .i64 fZ] w (Dr 7 a lo g (gY y n fZ) w):=by
 have HK:=aj hK
 have Xu:=aj hD
 obtain ⟨⟨C,P,Q,hf⟩,N,T,U,now⟩:=y
 obtain ⟨ca,pa,qa,na,ta,ua,cc,pc,qc,nc,tc,uc,c0,c1,n0,n1,t0,t1,u0,u1,hbk,hpt⟩:=hK
 have K0:=aj (show aN w g 133 #[.slice ca C.length cc,.slice pa P.length pc,.slice qa Q.length qc,.int .i64 hf,.slice na N.length nc,.slice ta T.length tc,.slice ua U.length uc,.int .i64 now,.int .i64 0] from hbk)
 have hap:=hpt.apart
 have hlw:lo≤w.heap.size:=by omega
 have HRD:=aj (show aH aJ w w.heap.size N na nc from hpt.nds.rd aK fun k hk=>bV hk.2 (by omega))
 obtain ⟨⟨R,cd⟩,hd⟩:∃ d,kM N n true (j5 fZ)=d:=⟨_,rfl⟩
 have hcd:=Wy (n:=n) (fZ:=fZ) (gF.2 hY.2.2.1)
 rw [hd] at hcd
 have HF:=aj (show gY ((C,P,Q,hf),N,T,U,now) n fZ=vH ((C,P,Q,hf),N,T,U,now) R cd from by unfold gY;rw [hd])
 rw [HF.out]
 have Xv:=aj hd
 have HCD:=aj hcd
 clear hbk hpt hap hD hd hcd hY HF
 have k4:=K0.out.at_ 4 rfl
 go_enter Tryz.func59,Tryz.ntmps59
 go_wp2_with fail
 refine (Wx HRD.out).mono ?_
 intro e w1 h
 rw [Xv.out] at h
 obtain ⟨us,rfl,hu,hb⟩:=bX h
 obtain ⟨a0,c0',T0,rfl,hT,ho⟩:=qU hu
 have hz:=hb.size
 have htk:=Qb (Xu.out.mv hb) h0 h1 HCD.out HK.out hb (bK _) (bK _) (ho.more hT)
 have HTK:=aj htk
 have HB:=aj hb
 clear h hu ho hT htk hb
 go_wp2_with fail
 refine HTK.out.mono ?_
 intro e w2 h
 obtain ⟨hb,h⟩:=uL h
 have RF:=aj (show Dr 7 a lo g (vH ((C,P,Q,hf),N,T,U,now) R cd) w e w2 from ⟨(HB.out.mono hlw).trans hb,h⟩)
 have he:∃ v,e=.returned v:=by
  rcases h with ⟨_,rfl,_⟩ | ⟨_,_,_,_,rfl⟩
  ·exact ⟨_,rfl⟩
  ·exact ⟨_,rfl⟩
 obtain ⟨v,rfl⟩:=he
 clear h hb
 go_wp2
 go_ret
 exact RF.out
theorem Iy {a:Nat→Addr}{lo g bn bf:Nat}{w:World}{y:dK}{n fZ:Int}(hD:oI 7 w a)(h0:-9223372036854775808≤n)(h1:n≤9223372036854775807)(hY:iq y)(hK:R3 lo w g y 0)(hn:w.cell? ⟨bn,0,none⟩=some (.int .i64 n))(hfr:w.cell? ⟨bf,0,none⟩=some (.int .i64 fZ)) :
 Calls Tryz.prog 58 #[.pointer (some ⟨g,0,none⟩),.pointer (some ⟨bn,0,none⟩),.pointer (some ⟨bf,0,none⟩)] w (Dr 7 a lo g (gY y n fZ) w):=by
 have HU:=aj (Iw (fZ:=fZ) hD h0 h1 hY hK)
 clear hD hY hK
 go_enter Tryz.func58,Tryz.ntmps58
 go_wp2_with fail
 refine HU.out.mono ?_
 intro e w2 h
 have RF:=aj h
 obtain ⟨_,h⟩:=uL h
 have he:∃ v,e=.returned v:=by
  rcases h with ⟨_,rfl,_⟩ | ⟨_,_,_,_,rfl⟩
  ·exact ⟨_,rfl⟩
  ·exact ⟨_,rfl⟩
 obtain ⟨v,rfl⟩:=he
 clear h
 go_wp2
 go_ret
 exact RF.out
theorem zw {C:List (List av)}{P:List bq}{Q:List aV}{hf:Int}{ca pa qa:Option Addr}{cc pc qc:Nat}{N:List aO}{T:List aG}{U:List bH}{now:Int}{na ta ua:Option Addr}{nc tc uc:Nat}{n fZ:Int}{W:World}(hq:Q.length≤1048576)(hts:(Sl aI).sz T≤1048576)(hC:aH (Sl au) W W.heap.size C ca cc)(hP:aH aS W W.heap.size P pa pc)(hQ:aH aM W W.heap.size Q qa qc)(hN:aH aJ W W.heap.size N na nc)(hT:aH aI W W.heap.size T ta tc)(hU:aH bD W W.heap.size U ua uc) :
 Calls Tryz.prog 22 #[.agg #[.slice ca C.length cc,.slice pa P.length pc,.slice qa Q.length qc,.int .i64 hf,.slice na N.length nc,.slice ta T.length tc,.slice ua U.length uc,.int .i64 now],.int .i64 n,.int .i64 fZ] W (kU cu (xq ((C,P,Q,hf),N,T,U,now) (gY ((C,P,Q,hf),N,T,U,now) n fZ)) W):=by
 obtain ⟨DR,hDR⟩:∃ d,xq ((C,P,Q,hf),N,T,U,now) (gY ((C,P,Q,hf),N,T,U,now) n fZ)=d:=⟨_,rfl⟩
 have HDR:=aj hDR
 rw [hDR]
 clear hDR
 obtain ⟨z,hz⟩:∃ z,vF ((C,P,Q,hf),N,T,U,now)=z:=⟨_,rfl⟩
 have HZ:=aj hz
 clear hz
 have JE:=aj hC
 have FC:=aj hP
 have JB:=aj hQ
 have JD:=aj hN
 have Mw:=aj hT
 have Mv:=aj hU
 clear hC hP hQ hN hT hU
 obtain ⟨w0,hw0⟩:∃ w,w=(W.alloc (.cells #[.slice ca C.length cc,.slice pa P.length pc,.slice qa Q.length qc,.int .i64 hf,.slice na N.length nc,.slice ta T.length tc,.slice ua U.length uc,.int .i64 now] 44)).alloc (.cells #[.slice none 0 0,.slice none 0 0,.slice none 0 0,.int .i64 0,.slice none 0 0,.slice none 0 0,.slice none 0 0,.int .i64 0,.int .i64 0,.int .i64 0] 46):=⟨_,rfl⟩
 have hb0:Below W.heap.size W w0:=by rw [hw0];exact ((aU _ _).alloc (bK _) _).alloc (by simp) _
 have kX:aN w0 (W.heap.size) 44 #[.slice ca C.length cc,.slice pa P.length pc,.slice qa Q.length qc,.int .i64 hf,.slice na N.length nc,.slice ta T.length tc,.slice ua U.length uc,.int .i64 now]:=by
  have h9:=aN.new W 44 #[.slice ca C.length cc,.slice pa P.length pc,.slice qa Q.length qc,.int .i64 hf,.slice na N.length nc,.slice ta T.length tc,.slice ua U.length uc,.int .i64 now]
  try simp only [World.size_alloc] at h9
  rw [hw0];exact (h9.alloc _)
 have X0:=aj kX
 have qE:aN w0 (W.heap.size+1) 46 #[.slice none 0 0,.slice none 0 0,.slice none 0 0,.int .i64 0,.slice none 0 0,.slice none 0 0,.slice none 0 0,.int .i64 0,.int .i64 0,.int .i64 0]:=by
  have h9:=aN.new (W.alloc (.cells #[.slice ca C.length cc,.slice pa P.length pc,.slice qa Q.length qc,.int .i64 hf,.slice na N.length nc,.slice ta T.length tc,.slice ua U.length uc,.int .i64 now] 44)) 46 #[.slice none 0 0,.slice none 0 0,.slice none 0 0,.int .i64 0,.slice none 0 0,.slice none 0 0,.slice none 0 0,.int .i64 0,.int .i64 0,.int .i64 0]
  try simp only [World.size_alloc] at h9
  rw [hw0];exact h9
 have X1:=aj qE
 have HB0:=aj hb0
 have hz0:=hb0.size
 clear hb0  kX qE
 have hs0:w0.heap.size=W.heap.size+1+1:=by rw [hw0];simp
 go_enter Tryz.func22,Tryz.ntmps22
 go_upto_region 1 with fail
 rw [←hw0]
 clear hw0
 obtain ⟨dB,dA,dz,dx,fO,fM,fK,fJ⟩:=X0.out.fV rfl
 go_wp2_with fail
 refine (PU (aC (aY ak) JE.out HB0.out) (aC aD FC.out HB0.out) (aC aB JB.out HB0.out) (aC aK JD.out HB0.out) (aC ay Mw.out HB0.out) (aC aT Mv.out HB0.out) (hf:=hf) (now:=now)).mono ?_
 intro e w1 h
 obtain ⟨b,rfl,hbz,hb⟩:=bA h
 obtain rfl:b=z:=by
  have h1:=HZ.out
  have h2:=rM (y:=((C,P,Q,hf),N,T,U,now))
  cases b <;> cases z <;> simp_all
 have HB1:=aj (HB0.out.trans (hb.mono hz0))
 have Y0:=aj (X0.out.call hb)
 have Y1:=aj (X1.out.call hb)
 have hz1:w0.heap.size≤w1.heap.size:=hb.size
 clear h hb hbz X0 X1 dB dA dz dx fO fM fK fJ
 cases b with
 | false=>
  obtain rfl:DR=jJ 1:=HDR.out.symm.trans (EP HZ.out)
  go_wp2_with fail
  refine (UU 1 w1).mono ?_
  rintro e w2 ⟨rfl,hb⟩
  have HB2:=aj (HB1.out.trans (hb.mono HB1.out.size))
  have Y2:=aj (Y1.out.call hb)
  clear hb
  obtain ⟨q0,q1,q2,q3,q4,q5,q6,q7,q8,q9⟩:=Y2.out.jk rfl
  obtain ⟨f0,f1,f2,f3,f4,f5,f6,f7,f8,f9⟩:=Y2.out.Aj
  have HST:=aj (iP w2 (W.heap.size+1) (.slice none 0 0) (.slice none 0 0) (.slice none 0 0) (.int .i64 0) (.slice none 0 0) (.slice none 0 0) (.slice none 0 0) (.int .i64 0) (.int .i64 0) (.int .i64 1))
  have rD:=aj (iQ (w:=w2) (g:=W.heap.size+1) (v0:=.slice none 0 0) (v1:=.slice none 0 0) (v2:=.slice none 0 0) (v3:=.int .i64 0) (v4:=.slice none 0 0) (v5:=.slice none 0 0) (v6:=.slice none 0 0) (v7:=.int .i64 0) (v8:=.int .i64 0) (v9:=.int .i64 1) Y2.out)
  have uw:=aj (jA HB2.out HST.out (fun k hk=>by rw [hk];omega) HB2.out.size)
  obtain ⟨r0,r1,r2,r3,r4,r5,r6,r7,r8,r9⟩:=rD.out.jk rfl
  go_wp2
  refine qA (v:=.agg #[.slice none 0 0,.slice none 0 0,.slice none 0 0,.int .i64 0,.slice none 0 0,.slice none 0 0,.slice none 0 0,.int .i64 0,.int .i64 0,.int .i64 1]) (by simp [results,Tryz.results22,go_sem, *]) rfl ⟨[.slice none 0 0,.slice none 0 0,.slice none 0 0,.int .i64 0,.slice none 0 0,.slice none 0 0,.slice none 0 0,.int .i64 0,.int .i64 0,.int .i64 1],rfl,mk_zero 1,uw.out⟩
 | true=>
 obtain rfl:gY ((C,P,Q,hf),N,T,U,now) n fZ=DR:=(HDR.out.symm.trans (Bn HZ.out)).symm
 have HYR:=aj (rM.1 HZ.out)
 obtain ⟨Tf,Te,Td,Tc,Ta,S9,SY,SX⟩:=Y0.out.fV rfl
 go_wp2_with fail
 refine (Wv (aC aK JD.out HB1.out)).mono ?_
 intro e w2 h
 obtain ⟨⟨R,cd⟩,hd⟩:∃ d,kM N n true (j5 fZ)=d:=⟨_,rfl⟩
 rw [hd] at h
 have HFV:=aj (show gY ((C,P,Q,hf),N,T,U,now) n fZ=vH ((C,P,Q,hf),N,T,U,now) R cd from by unfold gY;rw [hd])
 obtain ⟨us,rfl,hu,hb⟩:=bX h
 obtain ⟨ra,rc,SN,rfl,hSN,ho⟩:=qU hu
 have vg:=aj ho
 have HSN:=aj hSN
 have HB2:=aj (HB1.out.trans (hb.mono HB1.out.size))
 have Y0:=aj (Y0.out.call hb)
 have Y1:=aj (Y1.out.call hb)
 have hz2:w1.heap.size≤w2.heap.size:=hb.size
 clear h hu ho hSN hb hd Tf Te Td Tc Ta S9 SY SX
 obtain ⟨w3,hw3⟩:∃ w,w=w2.alloc (.cells #[.slice ra R.length rc,.int .i64 cd] 95):=⟨_,rfl⟩
 have Pn:Below w2.heap.size w2 w3:=by rw [hw3];exact (aU _ _).alloc (bK _) _
 have K3:=aj (show aN w3 w2.heap.size 95 #[.slice ra R.length rc,.int .i64 cd] from by rw [hw3];exact aN.new _ _ _)
 have hz3:w2.heap.size≤w3.heap.size:=Pn.size
 have hl3:=K3.out.lt
 have HB3:=aj (HB2.out.trans (Pn.mono HB2.out.size))
 have Z0:=aj (Y0.out.call Pn)
 have Z1:=aj (Y1.out.call Pn)
 have HB23:=aj Pn
 obtain ⟨p0,p1⟩:=K3.out.kZ rfl
 go_upto_region 4 with fail
 rw [←hw3]
 clear hw3 Pn Y0 Y1
 by_cases hcd:cd=0
 rotate_left
 ·have hcb:(cd != 0)=true:=by simp [hcd]
  have HFC:=aj (HFV.out.trans (GY _ _ hcd))
  go_wp2_with fail
  refine (UU cd w3).mono ?_
  rintro e w4 ⟨rfl,hb⟩
  have jU:=aj (HB3.out.trans (hb.mono HB3.out.size))
  have Y4:=aj (Z1.out.call hb)
  clear hb p0 p1
  obtain ⟨q0,q1,q2,q3,q4,q5,q6,q7,q8,q9⟩:=Y4.out.jk rfl
  obtain ⟨f0,f1,f2,f3,f4,f5,f6,f7,f8,f9⟩:=Y4.out.Aj
  have HST:=aj (iP w4 (W.heap.size+1) (.slice none 0 0) (.slice none 0 0) (.slice none 0 0) (.int .i64 0) (.slice none 0 0) (.slice none 0 0) (.slice none 0 0) (.int .i64 0) (.int .i64 0) (.int .i64 cd))
  have rD:=aj (iQ (w:=w4) (g:=W.heap.size+1) (v0:=.slice none 0 0) (v1:=.slice none 0 0) (v2:=.slice none 0 0) (v3:=.int .i64 0) (v4:=.slice none 0 0) (v5:=.slice none 0 0) (v6:=.slice none 0 0) (v7:=.int .i64 0) (v8:=.int .i64 0) (v9:=.int .i64 cd) Y4.out)
  have uw:=aj (jA jU.out HST.out (fun k hk=>by rw [hk];omega) jU.out.size)
  obtain ⟨r0,r1,r2,r3,r4,r5,r6,r7,r8,r9⟩:=rD.out.jk rfl
  go_wp2
  refine qA (v:=.agg #[.slice none 0 0,.slice none 0 0,.slice none 0 0,.int .i64 0,.slice none 0 0,.slice none 0 0,.slice none 0 0,.int .i64 0,.int .i64 0,.int .i64 cd]) (by simp [results,Tryz.results22,go_sem, *]) rfl ⟨[.slice none 0 0,.slice none 0 0,.slice none 0 0,.int .i64 0,.slice none 0 0,.slice none 0 0,.slice none 0 0,.int .i64 0,.int .i64 0,.int .i64 cd],rfl,by rw [HFC.out];exact mk_zero cd,uw.out⟩
 subst hcd
 have HFC:=aj (HFV.out.trans (DU _ _))
 obtain ⟨acN,acM,acL,acK,acJ,acI,acH,acG⟩:=Z0.out.fV rfl
 go_wp2_with fail
 have hNl:=lJ HYR.out.2.2.1
 have hRR:=HYR.out.2.1
 refine (Fh hRR.1 (eH hRR.2.2.2.1.1 (by omega)) hq hNl.1 hNl.2 (eH HYR.out.2.2.2.2.1.1 (by omega)) hts (eH HYR.out.2.2.2.2.2.1.1 (by omega)) (aC (aY ak) JE.out HB3.out) (aC aD FC.out HB3.out) (aC aB JB.out HB3.out) (aC aK JD.out HB3.out) (aC ay Mw.out HB3.out) (aC aT Mv.out HB3.out) (hf:=hf) (now:=now)).mono ?_
 intro e w4 h
 obtain ⟨us,rfl,hu,hb⟩:=bX h
 obtain ⟨qD,cc',pa',pc',nV,nU,na',wR,oW,oV,qC,qB,T0,T1,T2,T3,T4,T5,rfl,s0,s1,s2,s3,s4,s5,d01,d02,d03,d04,d05,Mc,RY,d14,d15,d23,d24,d25,d34,d35,d45,o0,o1,o2,o3,o4,o5⟩:=EK hu
 have HS:=aj (show (∀ k,T0 k→Rg w3.heap.size w4.heap.size k)∧(∀ k,T1 k→Rg w3.heap.size w4.heap.size k)∧(∀ k,T2 k→Rg w3.heap.size w4.heap.size k)∧(∀ k,T4 k→Rg w3.heap.size w4.heap.size k)∧(∀ k,T5 k→Rg w3.heap.size w4.heap.size k) from ⟨s0,s1,s2,s4,s5⟩)
 have HDJ:=aj (show (∀ k,T0 k→¬T1 k)∧(∀ k,T0 k→¬T2 k)∧(∀ k,T0 k→¬T4 k)∧(∀ k,T0 k→¬T5 k)∧(∀ k,T1 k→¬T2 k)∧(∀ k,T1 k→¬T4 k)∧(∀ k,T1 k→¬T5 k)∧(∀ k,T2 k→¬T4 k)∧(∀ k,T2 k→¬T5 k)∧(∀ k,T4 k→¬T5 k) from ⟨d01,d02,d04,d05,Mc,d14,d15,d24,d25,d45⟩)
 have HO:=aj (show bG (Sl au) w4 T0 C qD cc'∧bG aS w4 T1 P pa' pc'∧bG aM w4 T2 Q nV nU∧bG aI w4 T4 T oW oV∧bG bD w4 T5 U qC qB from ⟨o0,o1,o2,o4,o5⟩)
 have jU:=aj (HB3.out.trans (hb.mono HB3.out.size))
 have Z1:=aj (Z1.out.call hb)
 have K4:=aj (K3.out.call hb)
 have rE:=aj ((vg.out.keep aK fun q hq=>HB23.out.block q (HSN.out q hq).2).keep aK fun q hq=>hb.block q (bV (HSN.out q hq).2 hz3))
 have mP:w3.heap.size≤w4.heap.size:=hb.size
 clear h hu hb s0 s1 s2 s3 s4 s5 d01 d02 d03 d04 d05 Mc RY d14 d15 d23 d24 d25 d34 d35 d45 o0 o1 o2 o3 o4 o5 hNl hRR p0 p1 acN acM acL acK acJ acI acH acG K3
 obtain ⟨w5,Df⟩:∃ w,w=w4.alloc (.cells #[.slice qD C.length cc',.slice pa' P.length pc',.slice nV Q.length nU,.int .i64 hf,.slice na' N.length wR,.slice oW T.length oV,.slice qC U.length qB,.int .i64 now] 44):=⟨_,rfl⟩
 have Pm:Below w4.heap.size w4 w5:=by rw [Df];exact (aU _ _).alloc (bK _) _
 have K5:=aj (show aN w5 w4.heap.size 44 #[.slice qD C.length cc',.slice pa' P.length pc',.slice nV Q.length nU,.int .i64 hf,.slice na' N.length wR,.slice oW T.length oV,.slice qC U.length qB,.int .i64 now] from by rw [Df];exact aN.new _ _ _)
 have uo:w4.heap.size≤w5.heap.size:=Pm.size
 have hl5:=K5.out.lt
 have ny:=aj (jU.out.trans (Pm.mono jU.out.size))
 have Z1:=aj (Z1.out.call Pm)
 have N5:=aj (K4.out.call Pm)
 have HB45:=aj Pm
 go_upto_region 7 with fail
 rw [←Df]
 clear Df Pm K4
 have n0:=N5.out.at_ 0 rfl
 have y4:=K5.out.at_ 4 rfl
 have g4:=K5.out.soft 4
 obtain ⟨w6,hw6⟩:∃ w,w=w5.setCell ⟨w4.heap.size,4,none⟩ (.slice ra R.length rc):=⟨_,rfl⟩
 have SE:Below w4.heap.size w5 w6:=by rw [hw6];exact (aU _ _).setCell (p:=⟨w4.heap.size,4,none⟩) (bK _) _
 have K6:=aj (show aN w6 w4.heap.size 44 #[.slice qD C.length cc',.slice pa' P.length pc',.slice nV Q.length nU,.int .i64 hf,.slice ra R.length rc,.slice oW T.length oV,.slice qC U.length qB,.int .i64 now] from by rw [hw6];exact aN.as (K5.out.set 4 _) (by kernel_rfl))
 have wU:=aj (ny.out.trans (SE.mono (eH jU.out.size (bK _))))
 have Z6:=aj (aN.lowb Z1.out (show W.heap.size+1<w4.heap.size by omega) SE)
 have hk46:∀ q,q<w4.heap.size→w6.heap[q]? = w4.heap[q]?:=fun q hq=>(SE.block q hq).trans (HB45.out.block q hq)
 have hz6:w5.heap.size≤w6.heap.size:=SE.size
 go_upto_region 8 with fail
 rw [←hw6]
 clear hw6 SE Z1 N5 n0 y4 g4 K5
 obtain ⟨qK6_0,qK6_1,qK6_2,qK6_3,qK6_4,qK6_5,qK6_6,qK6_7⟩:=K6.out.fV rfl
 obtain ⟨q0,q1,q2,q3,q4,q5,q6,q7,q8,q9⟩:=Z6.out.jk rfl
 obtain ⟨f0,f1,f2,f3,f4,f5,f6,f7,f8,f9⟩:=Z6.out.Aj
 have HST:=aj (iP w6 (W.heap.size+1) (.slice qD C.length cc') (.slice pa' P.length pc') (.slice nV Q.length nU) (.int .i64 hf) (.slice ra R.length rc) (.slice oW T.length oV) (.slice qC U.length qB) (.int .i64 now) (.int .i64 0) (.int .i64 0))
 have rD:=aj (iQ (w:=w6) (g:=W.heap.size+1) (v0:=.slice qD C.length cc') (v1:=.slice pa' P.length pc') (v2:=.slice nV Q.length nU) (v3:=.int .i64 hf) (v4:=.slice ra R.length rc) (v5:=.slice oW T.length oV) (v6:=.slice qC U.length qB) (v7:=.int .i64 now) (v8:=.int .i64 0) (v9:=.int .i64 0) Z6.out)
 have uw:=aj (jA wU.out HST.out (fun k hk=>by rw [hk];omega) wU.out.size)
 obtain ⟨r0,r1,r2,r3,r4,r5,r6,r7,r8,r9⟩:=rD.out.jk rfl
 go_wp2
 refine qA (v:=.agg #[.slice qD C.length cc',.slice pa' P.length pc',.slice nV Q.length nU,.int .i64 hf,.slice ra R.length rc,.slice oW T.length oV,.slice qC U.length qB,.int .i64 now,.int .i64 0,.int .i64 0]) (by simp [results,Tryz.results22,go_sem, *]) rfl ⟨[.slice qD C.length cc',.slice pa' P.length pc',.slice nV Q.length nU,.int .i64 hf,.slice ra R.length rc,.slice oW T.length oV,.slice qC U.length qB,.int .i64 now,.int .i64 0,.int .i64 0],rfl,?_,uw.out⟩
 have hsz:=HST.out.size
 have hk:∀ q,W.heap.size+1<q→q<w4.heap.size→((((((((((w6.setCell ⟨W.heap.size+1,0,none⟩ (.slice qD C.length cc')).setCell ⟨W.heap.size+1,1,none⟩ (.slice pa' P.length pc')).setCell ⟨W.heap.size+1,2,none⟩ (.slice nV Q.length nU)).setCell ⟨W.heap.size+1,3,none⟩ (.int .i64 hf)).setCell ⟨W.heap.size+1,4,none⟩ (.slice ra R.length rc)).setCell ⟨W.heap.size+1,5,none⟩ (.slice oW T.length oV)).setCell ⟨W.heap.size+1,6,none⟩ (.slice qC U.length qB)).setCell ⟨W.heap.size+1,7,none⟩ (.int .i64 now)).setCell ⟨W.heap.size+1,8,none⟩ (.int .i64 0)).setCell ⟨W.heap.size+1,9,none⟩ (.int .i64 0)).heap[q]? = w4.heap[q]?:=fun q h1 h2=>(HST.out.block q (by omega) (by show ¬q=W.heap.size+1;omega)).trans (hk46 q h2)
 rw [HFC.out]
 obtain ⟨s0,s1,s2,s4,s5⟩:=HS.out
 obtain ⟨d01,d02,d04,d05,Mc,d14,d15,d24,d25,d45⟩:=HDJ.out
 obtain ⟨o0,o1,o2,o4,o5⟩:=HO.out
 have hn:=HSN.out
 have far:∀ k,Rg w3.heap.size w4.heap.size k→¬SN k:=fun k h1 h2=>by have h3:=h1.1;have h4:=(hn k h2).2;omega
 have up:∀ k,Rg w3.heap.size w4.heap.size k→Rg W.heap.size ((((((((((w6.setCell ⟨W.heap.size+1,0,none⟩ (.slice qD C.length cc')).setCell ⟨W.heap.size+1,1,none⟩ (.slice pa' P.length pc')).setCell ⟨W.heap.size+1,2,none⟩ (.slice nV Q.length nU)).setCell ⟨W.heap.size+1,3,none⟩ (.int .i64 hf)).setCell ⟨W.heap.size+1,4,none⟩ (.slice ra R.length rc)).setCell ⟨W.heap.size+1,5,none⟩ (.slice oW T.length oV)).setCell ⟨W.heap.size+1,6,none⟩ (.slice qC U.length qB)).setCell ⟨W.heap.size+1,7,none⟩ (.int .i64 now)).setCell ⟨W.heap.size+1,8,none⟩ (.int .i64 0)).setCell ⟨W.heap.size+1,9,none⟩ (.int .i64 0)).heap.size k:=fun k h1=>⟨by have:=h1.1;omega,by have:=h1.2;omega⟩
 have hkk:∀ k,Rg w3.heap.size w4.heap.size k→((((((((((w6.setCell ⟨W.heap.size+1,0,none⟩ (.slice qD C.length cc')).setCell ⟨W.heap.size+1,1,none⟩ (.slice pa' P.length pc')).setCell ⟨W.heap.size+1,2,none⟩ (.slice nV Q.length nU)).setCell ⟨W.heap.size+1,3,none⟩ (.int .i64 hf)).setCell ⟨W.heap.size+1,4,none⟩ (.slice ra R.length rc)).setCell ⟨W.heap.size+1,5,none⟩ (.slice oW T.length oV)).setCell ⟨W.heap.size+1,6,none⟩ (.slice qC U.length qB)).setCell ⟨W.heap.size+1,7,none⟩ (.int .i64 now)).setCell ⟨W.heap.size+1,8,none⟩ (.int .i64 0)).setCell ⟨W.heap.size+1,9,none⟩ (.int .i64 0)).heap[k]? = w4.heap[k]?:=fun k h1=>hk k (by have:=h1.1;omega) h1.2
 exact Kk (cs:=[.slice qD C.length cc',.slice pa' P.length pc',.slice nV Q.length nU,.int .i64 hf,.slice ra R.length rc,.slice oW T.length oV,.slice qC U.length qB,.int .i64 now]) (xQ (T0:=T0) (T1:=T1) (T2:=T2) (T3:=SN) (T4:=T4) (T5:=T5) (fun k h=>up k (s0 k h)) (fun k h=>up k (s1 k h)) (fun k h=>up k (s2 k h)) (fun k h=>⟨by have:=(hn k h).1;omega,by have:=(hn k h).2;omega⟩) (fun k h=>up k (s4 k h)) (fun k h=>up k (s5 k h)) d01 d02 (fun k h=>far k (s0 k h)) d04 d05 Mc (fun k h=>far k (s1 k h)) d14 d15 (fun k h=>far k (s2 k h)) d24 d25 (fun k h h'=>far k (s4 k h') h) (fun k h h'=>far k (s5 k h') h) d45
  (o0.keep (aY ak) fun q h=>hkk q (s0 q h)) (o1.keep aD fun q h=>hkk q (s1 q h)) (o2.keep aB fun q h=>hkk q (s2 q h)) (rE.out.keep aK fun q h=>hk q (by have:=(hn q h).1;omega) (by have:=(hn q h).2;omega)) (o4.keep ay fun q h=>hkk q (s4 q h)) (o5.keep aT fun q h=>hkk q (s5 q h)))
end
end Go.Proofs.YtlhfiapfncikdaaGreatDoor.aP
