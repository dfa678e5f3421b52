import Derived.Test.YtlhfiapfncikdaaGreatDoorPU31
import Derived.Test.YtlhfiapfncikdaaGreatDoorPU32
set_option linter.unusedVariables false
set_option linter.unusedSimpArgs false
set_option maxRecDepth 100000
set_option maxHeartbeats 3200000
namespace Go.Proofs.YtlhfiapfncikdaaGreatDoor.aP
section
open Go.RowKit bN bP bJ bM xu Xe
noncomputable def vH (y:dK)(L:List aO)(c:Int):dZ:=if c=0 then ((y.1,L,y.2.2),0,0) else jJ c
theorem DU (y:dK)(L:List aO):vH y L 0=((y.1,L,y.2.2),0,0):=if_pos rfl
theorem GY (y:dK)(L:List aO){c:Int}(h:c≠0):vH y L c=jJ c:=if_neg h
theorem RD.nodes {lo g:Nat}{wq w:World}{y:dK}{ca pa qa na ta ua Jw:Option Addr}{cc pc qc nc tc uc c0 c1 n0 n1 t0 t1 u0 u1 Jv m0 m1:Nat}{L:List aO}(h:RD lo wq g y ca pa qa na ta ua cc pc qc nc tc uc c0 c1 n0 n1 t0 t1 u0 u1)(ho:Below wq.heap.size wq w)(hm:wq.heap.size≤m0)(hm1:m1≤w.heap.size)(hN:bG aJ w (Rg m0 m1) L Jw Jv) :
 RD lo w g (y.1,L,y.2.2) ca pa qa Jw ta ua cc pc qc Jv tc uc c0 c1 m0 m1 t0 t1 u0 u1:=by
 have h2:=h.call ho
 have hd:=h.apart
 have hs:=ho.size
 exact ⟨by omega,h2.cfg,hN,h2.Rm,h2.use⟩
theorem Qb {a:Nat→Addr}{lo g:Nat}{wq V:World}{y:dK}{n c:Int}{L:List aO}{Jw:Option Addr}{Jv m0 m1:Nat}(hD:oI 7 V a)(h0:-9223372036854775808≤n)(h1:n≤9223372036854775807)(hc:c=0∨c=1∨6≤c∧c≤11)
 (hK:R3 lo wq g y 0) (hb:Below wq.heap.size wq V) (hm:wq.heap.size≤m0) (hm1:m1≤V.heap.size) (hN:bG aJ V (Rg m0 m1) L Jw Jv) :
 Calls Tryz.prog 112 #[.pointer (some ⟨g,0,none⟩),.int .i64 n,.agg #[.slice Jw L.length Jv,.int .i64 c]] V (Dr 7 a lo g (vH y L c) V):=by
 obtain ⟨⟨C,P,Q,hf⟩,N,T,U,now⟩:=y
 obtain ⟨ca,pa,qa,na,ta,ua,cc,pc,qc,nc,tc,uc,c0,c1,n0,n1,t0,t1,u0,u1,hbk,hpt⟩:=hK
 have hap:=hpt.apart
 have hgs:g<wq.heap.size:=hap.2.1
 have hgl:lo≤g:=hap.1
 have hsz:=hb.size
 have hpn:=hpt.nodes hb hm hm1 hN
 have HPN:=aj hpn
 have K1:=aj (show aN V g 133 #[.slice ca C.length cc,.slice pa P.length pc,.slice qa Q.length qc,.int .i64 hf,.slice na N.length nc,.slice ta T.length tc,.slice ua U.length uc,.int .i64 now,.int .i64 0] from hbk.call hb)
 have Xu:=aj hD
 clear hbk hpt hap hpn hD hN hb
 obtain ⟨w0,hw0⟩:∃ x,x=V.alloc (.cells #[.slice Jw L.length Jv,.int .i64 c] 95):=⟨_,rfl⟩
 have hb0:Below V.heap.size V w0:=by rw [hw0];exact (aU _ _).alloc (bK _) _
 have X0:=aj (show aN w0 V.heap.size 95 #[.slice Jw L.length Jv,.int .i64 c] from by rw [hw0];exact aN.new _ _ _)
 have K0:=aj (K1.out.call hb0)
 have iF:=aj (HPN.out.call hb0)
 have HB0:=aj hb0
 have hz0:=hb0.size
 have HD0:=aj (Xu.out.mv hb0)
 clear hb0 HPN K1 Xu
 go_enter Tryz.func112,Tryz.ntmps112
 go_upto_region 1 with fail
 rw [←hw0]
 clear hw0
 obtain ⟨q0,q1⟩:=X0.out.kZ rfl
 by_cases hc0:c=0
 ·subst hc0
  rw [DU]
  have k4:=K0.out.at_ 4 rfl
  have f4:=K0.out.soft 4
  go_wp2
  go_ret
  have hoff:Off (fun x=>x=g) w0 (w0.setCell ⟨g,4,none⟩ (.slice Jw L.length Jv)):=(Off.refl (fun x=>x=g) w0).setCell (p:=⟨g,4,none⟩) rfl _
  exact ⟨(HB0.out.mono (show lo≤V.heap.size by omega)).setCell (p:=⟨g,4,none⟩) (show lo≤g by omega) _,.inl ⟨rfl,rfl,⟨ca,pa,qa,Jw,ta,ua,cc,pc,qc,Jv,tc,uc,c0,c1,m0,m1,t0,t1,u0,u1,aN.as (K0.out.set 4 _) (by kernel_rfl),iF.out.off hoff⟩⟩⟩
 have hcb:(c != 0)=true:=by simp [hc0]
 have hcd:=hc.resolve_left hc0
 clear hc K0 iF
 go_upto_region 2 with fail
 refine dW (S:=(fun X=>Below w0.heap.size w0 X)) (by kernel_rfl) ((aU _ w0).drew) (fun ah=>?_)
 refine tk 0 ah ?_
 refine tk 3 ah ?_
 refine tk 4 ah ?_ (hy:=fun w hSw=>by (try dsimp only at hSw);have k0:=X0.out.hat hSw 1 rfl;clear hSw;go_simp;try with_reducible rfl)
 refine cZ 1 (fun K hK=>?_)
 go_simp
 go_at_call 169
 refine (Q6 n h0 h1 (HD0.out.mv ah)).mono ?_
 intro e w2 h
 obtain ⟨s,rfl,hs,hb⟩:=P6 h
 have hs5:¬9223372036854775807<5+s.size:=by omega
 refine hK.out _ _ (ah.trans (hb.mono ah.size)) (fun ah=>?_)
 clear hK K h hb
 refine tk 2 ah ?_ (hy:=fun w hSw=>by (try dsimp only at hSw);have k0:=hs5;clear hSw;go_simp;try with_reducible rfl)
 refine cZ 5 (fun K hK=>?_)
 go_simp
 go_at_call 170
 refine (KH (HD0.out.mv ah).sen c).mono ?_
 rintro e w3 ⟨rfl,rfl⟩
 refine hK.out _ _ ah (fun ah=>?_)
 clear hK K
 refine tk 6 ah ?_
 refine tk 7 ah ?_
 refine tk 8 ah ?_
 refine dQ ?_
 have uw:=aj (HB0.out.trans (ah.mono hz0))
 clear ah
 have hkc:jJ c=jJ (Az (Z9 c)):=by rw [ZJ hcd]
 go_wp2
 go_ret
 rw [GY _ _ hc0]
 exact ⟨uw.out.mono (show lo≤V.heap.size by omega),.inr ⟨Z9 c,_,abM c,hkc,rfl⟩⟩
end
end Go.Proofs.YtlhfiapfncikdaaGreatDoor.aP
