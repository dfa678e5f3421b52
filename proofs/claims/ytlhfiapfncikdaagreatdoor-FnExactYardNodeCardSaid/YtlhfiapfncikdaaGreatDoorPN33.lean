import Derived.Test.YtlhfiapfncikdaaGreatDoorPN31
import Derived.Test.YtlhfiapfncikdaaGreatDoorPN32
set_option linter.unusedVariables false
set_option linter.unusedSimpArgs false
set_option maxRecDepth 100000
set_option maxHeartbeats 3200000
namespace Go.Proofs.YtlhfiapfncikdaaGreatDoor
namespace aQ
section
open Go.RowKit bN bO bJ bQ zI XM
noncomputable def yG (y:dF)(L:List aP)(c:Int):dU:=if c=0 then ((y.1,L,y.2.2),0,0) else jw c
theorem oV (y:dF)(L:List aP):yG y L 0=((y.1,L,y.2.2),0,0):=if_pos rfl
theorem wP (y:dF)(L:List aP){c:Int}(h:c≠0):yG y L c=jw c:=if_neg h
theorem FX.nodes {lo g:Nat}{wq w:World}{y:dF}{ca pa qa na ta ua JL:Option Addr}{cc pc qc nc tc uc c0 c1 n0 n1 t0 t1 u0 u1 JK m0 m1:Nat}{L:List aP}(h:FX lo wq g y ca pa qa na ta ua cc pc qc nc tc uc c0 c1 n0 n1 t0 t1 u0 u1)(ho:Below wq.heap.size wq w)(hm:wq.heap.size≤m0)(hm1:m1≤w.heap.size)(hN:bH aL w (Rg m0 m1) L JL JK) :
 FX lo w g (y.1,L,y.2.2) ca pa qa JL ta ua cc pc qc JK tc uc c0 c1 m0 m1 t0 t1 u0 u1:=by
 have h2:=h.call ho
 have hd:=h.apart
 have hs:=ho.size
 exact ⟨by omega,h2.cfg,hN,h2.JH,h2.use⟩
theorem QB {a:Nat→Addr}{lo g:Nat}{wq V:World}{y:dF}{n c:Int}{L:List aP}{JL:Option Addr}{JK m0 m1:Nat}(hD:oN 7 V a)(h0:-9223372036854775808≤n)(h1:n≤9223372036854775807)(hc:c=0∨c=1∨6≤c∧c≤11)
 (hK:Ph lo wq g y 0) (hb:Below wq.heap.size wq V) (hm:wq.heap.size≤m0) (hm1:m1≤V.heap.size) (hN:bH aL V (Rg m0 m1) L JL JK) :
 Calls Tryz.prog 112 #[.pointer (some ⟨g,0,none⟩),.int .i64 n,.agg #[.slice JL L.length JK,.int .i64 c]] V (GJ 7 a lo g (yG y L c) V):=by
 obtain ⟨⟨C,P,Q,hf⟩,N,T,U,now⟩:=y
 obtain ⟨ca,pa,qa,na,ta,ua,cc,pc,qc,nc,tc,uc,c0,c1,n0,n1,t0,t1,u0,u1,hbk,hpt⟩:=hK
 have hap:=hpt.apart
 have hgs:g<wq.heap.size:=hap.2.1
 have hgl:lo≤g:=hap.1
 have hsz:=hb.size
 have hpn:=hpt.nodes hb hm hm1 hN
 have HPN:=ak hpn
 have K1:=ak (show aO V g 133 #[.slice ca C.length cc,.slice pa P.length pc,.slice qa Q.length qc,.int .i64 hf,.slice na N.length nc,.slice ta T.length tc,.slice ua U.length uc,.int .i64 now,.int .i64 0] from hbk.call hb)
 have XU:=ak hD
 clear hbk hpt hap hpn hD hN hb
 obtain ⟨w0,hw0⟩:∃ x,x=V.alloc (.cells #[.slice JL L.length JK,.int .i64 c] 95):=⟨_,rfl⟩
 have hb0:Below V.heap.size V w0:=by rw [hw0];exact (aW _ _).alloc (bK _) _
 have X0:=ak (show aO w0 V.heap.size 95 #[.slice JL L.length JK,.int .i64 c] from by rw [hw0];exact aO.new _ _ _)
 have K0:=ak (K1.out.call hb0)
 have gY:=ak (HPN.out.call hb0)
 have HB0:=ak hb0
 have hz0:=hb0.size
 have HD0:=ak (XU.out.mv hb0)
 clear hb0 HPN K1 XU
 go_enter Tryz.func112,Tryz.ntmps112
 go_upto_region 1 with fail
 rw [←hw0]
 clear hw0
 obtain ⟨q0,q1⟩:=X0.out.kS rfl
 by_cases hc0:c=0
 ·subst hc0
  rw [oV]
  have k4:=K0.out.at_ 4 rfl
  have f4:=K0.out.soft 4
  go_wp2
  go_ret
  have hoff:Off (fun x=>x=g) w0 (w0.setCell ⟨g,4,none⟩ (.slice JL L.length JK)):=(Off.refl (fun x=>x=g) w0).setCell (p:=⟨g,4,none⟩) rfl _
  exact ⟨(HB0.out.mono (show lo≤V.heap.size by omega)).setCell (p:=⟨g,4,none⟩) (show lo≤g by omega) _,.inl ⟨rfl,rfl,⟨ca,pa,qa,JL,ta,ua,cc,pc,qc,JK,tc,uc,c0,c1,m0,m1,t0,t1,u0,u1,aO.as (K0.out.set 4 _) (by kernel_rfl),gY.out.off hoff⟩⟩⟩
 have hcb:(c != 0)=true:=by simp [hc0]
 have hcd:=hc.resolve_left hc0
 clear hc K0 gY
 go_upto_region 2 with fail
 refine dX (S:=(fun X=>Below w0.heap.size w0 X)) (by kernel_rfl) ((aW _ w0).drew) (fun ah=>?_)
 refine tk 0 ah ?_
 refine tk 3 ah ?_
 refine tk 4 ah ?_ (hy:=fun w aj=>by (try dsimp only at aj);have k0:=X0.out.hat aj 1 rfl;clear aj;go_simp;try with_reducible rfl)
 refine dw 1 (fun K hK=>?_)
 go_simp
 go_at_call 169
 refine (RD n h0 h1 (HD0.out.mv ah)).mono ?_
 intro e w2 h
 obtain ⟨s,rfl,hs,hb⟩:=Qv h
 have hs5:¬9223372036854775807<5+s.size:=by omega
 refine hK.out _ _ (ah.trans (hb.mono ah.size)) (fun ah=>?_)
 clear hK K h hb
 refine tk 2 ah ?_ (hy:=fun w aj=>by (try dsimp only at aj);have k0:=hs5;clear aj;go_simp;try with_reducible rfl)
 refine dw 5 (fun K hK=>?_)
 go_simp
 go_at_call 170
 refine (KZ (HD0.out.mv ah).sen c).mono ?_
 rintro e w3 ⟨rfl,rfl⟩
 refine hK.out _ _ ah (fun ah=>?_)
 clear hK K
 refine tk 6 ah ?_
 refine tk 7 ah ?_
 refine tk 8 ah ?_
 refine dQ ?_
 have uK:=ak (HB0.out.trans (ah.mono hz0))
 clear ah
 have hkc:jw c=jw (uf (kOf c)):=by rw [aad hcd]
 go_wp2
 go_ret
 rw [wP _ _ hc0]
 exact ⟨uK.out.mono (show lo≤V.heap.size by omega),.inr ⟨kOf c,_,ab0 c,hkc,rfl⟩⟩
end
end aQ
end Go.Proofs.YtlhfiapfncikdaaGreatDoor
