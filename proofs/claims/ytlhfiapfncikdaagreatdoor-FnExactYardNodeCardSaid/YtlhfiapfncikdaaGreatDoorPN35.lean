import Derived.Test.YtlhfiapfncikdaaGreatDoorPN21
import Derived.Test.YtlhfiapfncikdaaGreatDoorPN33
import Derived.Test.YtlhfiapfncikdaaGreatDoorPN34
set_option linter.unusedVariables false
set_option linter.unusedSimpArgs false
set_option maxRecDepth 100000
set_option maxHeartbeats 3200000
namespace Go.Proofs.YtlhfiapfncikdaaGreatDoor
namespace aQ
section
open Go.RowKit bN bO bJ bQ zI XM eO
theorem VL {L:List aP}{n st:Int}(h:iU L=true):(lg L n (dD st 1 3) (lY st)).2=0∨(lg L n (dD st 1 3) (lY st)).2=1∨6≤(lg L n (dD st 1 3) (lY st)).2∧(lg L n (dD st 1 3) (lY st)).2≤11:=by
 have h4:¬400<L.length:=by have:=(gG.1 h).1.2;omega
 cases hs:dD st 1 3 with
 | false=>rw [sH h4 (by rw [Bool.and_false])];right;left;rfl
 | true=>
  have h2:(iU L&&true)=true:=by rw [h];rfl
  by_cases h3:dD n 0 ((L.length:Int)-1)=true
  ·have hn:=(dG _ _ _).1 h3
   obtain ⟨m,rfl⟩:∃ m:Nat,n=m:=⟨n.toNat,by omega⟩
   obtain ⟨x,hx⟩:=aM (show m<L.length by omega)
   rw [E5 h4 h2 hx]
   unfold lY
   split <;> simp
  ·rw [yE h4 h2 (by simpa using h3)]
   right;right;decide
noncomputable def qB (y:dF)(n st:Int):dF:=(y.1,y.2.1,if st=3 then y.2.2.1.map (kL n) else y.2.2.1,y.2.2.2)
noncomputable def pq (y:dF)(n st:Int):dU:=yG (qB y n st) (lg y.2.1 n (dD st 1 3) (lY st)).1 (lg y.2.1 n (dD st 1 3) (lY st)).2
theorem WU (k:Nat):uf k≠0:=by unfold uf;split <;> omega
theorem Fg {a:Nat→Addr}{lo g:Nat}{w:World}{y:dF}{n st:Int}(hD:oN 7 w a)(h0:-9223372036854775808≤n)(h1:n≤9223372036854775807)(hY:iq y)(hK:Ph lo w g y 0) :
 Calls Tryz.prog 53 #[.pointer (some ⟨g,0,none⟩),.int .i64 n,.int .i64 st] w (GJ 7 a lo g (pq y n st) w):=by
 have HK:=ak hK
 have XU:=ak hD
 obtain ⟨⟨C,P,Q,hf⟩,N,T,U,now⟩:=y
 obtain ⟨ca,pa,qa,na,ta,ua,cc,pc,qc,nc,tc,uc,c0,c1,n0,n1,t0,t1,u0,u1,hbk,hpt⟩:=hK
 have K0:=ak (show aO w g 133 #[.slice ca C.length cc,.slice pa P.length pc,.slice qa Q.length qc,.int .i64 hf,.slice na N.length nc,.slice ta T.length tc,.slice ua U.length uc,.int .i64 now,.int .i64 0] from hbk)
 have hap:=hpt.apart
 have hlw:lo≤w.heap.size:=by omega
 have HRD:=ak (show aJ aL w w.heap.size N na nc from hpt.nds.rd aK fun k hk=>bV hk.2 (by omega))
 obtain ⟨⟨R,cd⟩,hd⟩:∃ d,lg N n (dD st 1 3) (lY st)=d:=⟨_,rfl⟩
 have hcd:=VL (n:=n) (st:=st) (gG.2 hY.2.2.1)
 rw [hd] at hcd
 have HF:=ak (show pq ((C,P,Q,hf),N,T,U,now) n st=yG (qB ((C,P,Q,hf),N,T,U,now) n st) R cd from by unfold pq;rw [hd])
 have Xy:=ak hd
 have HCD:=ak hcd
 clear hbk hpt hap hD hd hcd hY
 have k4:=K0.out.at_ 4 rfl
 go_enter Tryz.func53,Tryz.ntmps53
 go_wp2_with fail
 refine (VK HRD.out).mono ?_
 intro e w1 h
 rw [Xy.out] at h
 obtain ⟨us,rfl,hu,hb⟩:=bY h
 obtain ⟨a0,c0',T0,rfl,hT,ho⟩:=ru hu
 have hz:=hb.size
 have htk:=QB (XU.out.mv hb) h0 h1 HCD.out HK.out hb (bK _) (bK _) (ho.more hT)
 have HTK:=ak htk
 have HB:=ak hb
 clear h hu ho hT htk hb k4
 go_wp2_with fail
 refine HTK.out.mono ?_
 intro e w2 h
 obtain ⟨hb,h⟩:=uV h
 have HB2:=ak ((HB.out.mono hlw).trans hb)
 clear hb HTK K0 HRD
 by_cases hc0:cd=0
 ·subst hc0
  rw [oV] at h
  rcases h with ⟨_,rfl,hwk⟩ | ⟨k,s,_,he,_⟩
  rotate_left
  ·exact absurd (congrArg (fun d:dU=>d.2.2) he).symm (WU k)
  have HWK:=ak hwk
  clear hwk
  by_cases hst:st=3
  ·have hsb:(st==3)=true:=by simp [hst]
   have Xw:=ak (LK (n:=n) HWK.out)
   have HE:=ak (show pq ((C,P,Q,hf),N,T,U,now) n st=(((C,P,Q,hf),R,T.map (kL n),U,now),0,0) from by rw [HF.out,oV];unfold qB;rw [if_pos hst])
   clear hst HF HWK
   go_wp2_with fail
   refine Xw.out.mono ?_
   rintro e w3 ⟨rfl,hwk,hb⟩
   have HW3:=ak hwk
   have HB3:=ak (HB2.out.trans hb)
   clear hwk hb Xw
   go_wp2
   go_ret
   rw [HE.out]
   exact ⟨HB3.out,.inl ⟨rfl,rfl,HW3.out⟩⟩
  ·have hsb:(st==3)=false:=by simp [hst]
   have HE:=ak (show pq ((C,P,Q,hf),N,T,U,now) n st=(((C,P,Q,hf),R,T,U,now),0,0) from by rw [HF.out,oV];unfold qB;rw [if_neg hst])
   clear hst HF
   go_wp2
   go_ret
   rw [HE.out]
   exact ⟨HB2.out,.inl ⟨rfl,rfl,HWK.out⟩⟩
 ·rw [wP _ _ hc0] at h
  rcases h with ⟨h00,_,_⟩ | ⟨k,s,hk,he,rfl⟩
  ·exact absurd h00 hc0
  have HE:=ak (show pq ((C,P,Q,hf),N,T,U,now) n st=jw (uf k) from by rw [HF.out,wP _ _ hc0,he])
  clear he HF Xy HCD
  go_wp2
  go_ret
  rw [HE.out]
  exact ⟨HB2.out,.inr ⟨k,s,hk,rfl,rfl⟩⟩
theorem Fh {a:Nat→Addr}{lo g bn bf:Nat}{w:World}{y:dF}{n st:Int}(hD:oN 7 w a)(h0:-9223372036854775808≤n)(h1:n≤9223372036854775807)(hY:iq y)(hK:Ph lo w g y 0)(hn:w.cell? ⟨bn,0,none⟩=some (.int .i64 n))(hfr:w.cell? ⟨bf,0,none⟩=some (.int .i64 st)) :
 Calls Tryz.prog 52 #[.pointer (some ⟨g,0,none⟩),.pointer (some ⟨bn,0,none⟩),.pointer (some ⟨bf,0,none⟩)] w (GJ 7 a lo g (pq y n st) w):=by
 have HU:=ak (Fg (st:=st) hD h0 h1 hY hK)
 clear hD hY hK
 go_enter Tryz.func52,Tryz.ntmps52
 go_wp2_with fail
 refine HU.out.mono ?_
 intro e w2 h
 have Xv:=ak h
 obtain ⟨_,h⟩:=uV h
 have he:∃ v,e=.returned v:=by
  rcases h with ⟨_,rfl,_⟩ | ⟨_,_,_,_,rfl⟩
  ·exact ⟨_,rfl⟩
  ·exact ⟨_,rfl⟩
 obtain ⟨v,rfl⟩:=he
 clear h
 go_wp2
 go_ret
 exact Xv.out
theorem Df {a:Nat→Addr}{C:List (List ay)}{P:List bA}{Q:List aX}{hf:Int}{ca pa qa:Option Addr}{cc pc qc:Nat}{N:List aP}{T:List aF}{U:List bI}{now:Int}{na ta ua:Option Addr}{nc tc uc:Nat}{n st:Int}{W:World}(hD:oN 7 W a)(h0:-9223372036854775808≤n)(h1:n≤9223372036854775807)(hq:Q.length≤1048576)(hts:(Sl aI).sz T≤1048576)(hC:aJ (Sl av) W W.heap.size C ca cc)(hP:aJ aT W W.heap.size P pa pc)(hQ:aJ aN W W.heap.size Q qa qc)(hN:aJ aL W W.heap.size N na nc)(hT:aJ aI W W.heap.size T ta tc)(hU:aJ bC W W.heap.size U ua uc) :
 Calls Tryz.prog 18 #[.agg #[.slice ca C.length cc,.slice pa P.length pc,.slice qa Q.length qc,.int .i64 hf,.slice na N.length nc,.slice ta T.length tc,.slice ua U.length uc,.int .i64 now],.int .i64 n,.int .i64 st] W (kT cB (xL ((C,P,Q,hf),N,T,U,now) (pq ((C,P,Q,hf),N,T,U,now) n st)) W):=by
 have JU:=ak hC
 have FM:=ak hP
 have JQ:=ak hQ
 have JR:=ak hN
 have MW:=ak hT
 have MV:=ak hU
 have XU:=ak hD
 clear hC hP hQ hN hT hU hD
 obtain ⟨w0,hw0⟩:∃ w,w=(((W.alloc (.cells #[.slice ca C.length cc,.slice pa P.length pc,.slice qa Q.length qc,.int .i64 hf,.slice na N.length nc,.slice ta T.length tc,.slice ua U.length uc,.int .i64 now] 44)).alloc (.cells #[.int .i64 n] 2)).alloc (.cells #[.int .i64 st] 2)).alloc (.cells #[.slice none 0 0,.slice none 0 0,.slice none 0 0,.int .i64 0,.slice none 0 0,.slice none 0 0,.slice none 0 0,.int .i64 0,.int .i64 0,.int .i64 0] 46):=⟨_,rfl⟩
 have hb0:Below W.heap.size W w0:=by rw [hw0];exact ((((aW _ _).alloc (bK _) _).alloc (by simp) _).alloc (by simp <;> omega) _).alloc (by simp <;> omega) _
 have kW:aO w0 (W.heap.size) 44 #[.slice ca C.length cc,.slice pa P.length pc,.slice qa Q.length qc,.int .i64 hf,.slice na N.length nc,.slice ta T.length tc,.slice ua U.length uc,.int .i64 now]:=by
  have h9:=aO.new W 44 #[.slice ca C.length cc,.slice pa P.length pc,.slice qa Q.length qc,.int .i64 hf,.slice na N.length nc,.slice ta T.length tc,.slice ua U.length uc,.int .i64 now]
  try simp only [World.size_alloc] at h9
  rw [hw0];exact (((h9.alloc _).alloc _).alloc _)
 have X0:=ak kW
 have qH:aO w0 (W.heap.size+1) 2 #[.int .i64 n]:=by
  have h9:=aO.new (W.alloc (.cells #[.slice ca C.length cc,.slice pa P.length pc,.slice qa Q.length qc,.int .i64 hf,.slice na N.length nc,.slice ta T.length tc,.slice ua U.length uc,.int .i64 now] 44)) 2 #[.int .i64 n]
  try simp only [World.size_alloc] at h9
  rw [hw0];exact ((h9.alloc _).alloc _)
 have X1:=ak qH
 have x2_:aO w0 (W.heap.size+1+1) 2 #[.int .i64 st]:=by
  have h9:=aO.new ((W.alloc (.cells #[.slice ca C.length cc,.slice pa P.length pc,.slice qa Q.length qc,.int .i64 hf,.slice na N.length nc,.slice ta T.length tc,.slice ua U.length uc,.int .i64 now] 44)).alloc (.cells #[.int .i64 n] 2)) 2 #[.int .i64 st]
  try simp only [World.size_alloc] at h9
  rw [hw0];exact (h9.alloc _)
 have X2:=ak x2_
 have x3_:aO w0 (W.heap.size+1+1+1) 46 #[.slice none 0 0,.slice none 0 0,.slice none 0 0,.int .i64 0,.slice none 0 0,.slice none 0 0,.slice none 0 0,.int .i64 0,.int .i64 0,.int .i64 0]:=by
  have h9:=aO.new (((W.alloc (.cells #[.slice ca C.length cc,.slice pa P.length pc,.slice qa Q.length qc,.int .i64 hf,.slice na N.length nc,.slice ta T.length tc,.slice ua U.length uc,.int .i64 now] 44)).alloc (.cells #[.int .i64 n] 2)).alloc (.cells #[.int .i64 st] 2)) 46 #[.slice none 0 0,.slice none 0 0,.slice none 0 0,.int .i64 0,.slice none 0 0,.slice none 0 0,.slice none 0 0,.int .i64 0,.int .i64 0,.int .i64 0]
  try simp only [World.size_alloc] at h9
  rw [hw0];exact h9
 have X3:=ak x3_
 have HB0:=ak hb0
 have hz0:=hb0.size
 clear hb0  kW qH x2_ x3_
 have hs0:w0.heap.size=W.heap.size+1+1+1+1:=by rw [hw0];simp
 have eg:∀ args w,(callFunc 52 args).run Tryz.prog w=.ok (.enter 52 args) w:=enters_of Tryz.func52 (by kernel_rfl) rfl
 have hcy:=JD (F:=52) (lb:=#[.pointer (some ⟨W.heap.size+1,0,none⟩),.pointer (some ⟨W.heap.size+1+1,0,none⟩)]) (f:=pq ((C,P,Q,hf),N,T,U,now) n st) (hf:=hf) (now:=now) eg (by decide) (XU.out.mv HB0.out) (fun hY w g lo hDw hB _ hK=>Fh hDw h0 h1 hY hK ((hB.cell (p:=⟨W.heap.size+1,0,none⟩) X1.out.lt).trans (X1.out.at_ 0 rfl)) ((hB.cell (p:=⟨W.heap.size+1+1,0,none⟩) X2.out.lt).trans (X2.out.at_ 0 rfl))) hq hts (aD (aZ au) JU.out HB0.out) (aD aG FM.out HB0.out) (aD aC JQ.out HB0.out) (aD aK JR.out HB0.out) (aD aA MW.out HB0.out) (aD aU MV.out HB0.out)
 have HCY:=ak hcy
 have hmf:∀ (fn:Fn) (first cap:Array Value) (w:World),(Instr.makeFunc fn first cap).run Tryz.prog w=.ok (.func fn first cap) w:=fun _ _ _ _=>rfl
 clear hcy eg
 go_enter Tryz.func18,Tryz.ntmps18
 go_upto_region 1 with fail
 rw [←hw0]
 clear hw0
 obtain ⟨dB,dA,dz,dx,fU,fT,fQ,fP⟩:=X0.out.gy rfl
 go_wp2_with fail
 refine HCY.out.mono ?_
 intro e w1 h
 obtain ⟨⟨⟨⟨C2,P2,Q2,hf2⟩,N2,T2,U2,Af⟩,id2,k2⟩,hd⟩:∃ d:dU,xL ((C,P,Q,hf),N,T,U,now) (pq ((C,P,Q,hf),N,T,U,now) n st)=d:=⟨_,rfl⟩
 rw [hd] at h
 have Xy:=ak hd
 obtain ⟨us,rfl,hu,hb⟩:=bY h
 obtain ⟨a0,c0,a1,c1,a2,c2,a3,c3,a4,c4,a5,c5,rfl,hu⟩:=nX hu
 have HU:=ak hu
 have HB1:=ak (HB0.out.trans (hb.mono hz0))
 have Y3:=ak (X3.out.call hb)
 have hz1:w0.heap.size≤w1.heap.size:=hb.size
 clear h hu hb hd hmf HCY dB dA dz dx fU fT fQ fP
 obtain ⟨q0,q1,q2,q3,q4,q5,q6,q7,q8,q9⟩:=Y3.out.ji rfl
 obtain ⟨f0,f1,f2,f3,f4,f5,f6,f7,f8,f9⟩:=Y3.out.Au
 have HST:=ak (iP w1 (W.heap.size+1+1+1) (.slice a0 C2.length c0) (.slice a1 P2.length c1) (.slice a2 Q2.length c2) (.int .i64 hf2) (.slice a3 N2.length c3) (.slice a4 T2.length c4) (.slice a5 U2.length c5) (.int .i64 Af) (.int .i64 id2) (.int .i64 k2))
 have rM:=ak (iQ (w:=w1) (g:=W.heap.size+1+1+1) (v0:=.slice a0 C2.length c0) (v1:=.slice a1 P2.length c1) (v2:=.slice a2 Q2.length c2) (v3:=.int .i64 hf2) (v4:=.slice a3 N2.length c3) (v5:=.slice a4 T2.length c4) (v6:=.slice a5 U2.length c5) (v7:=.int .i64 Af) (v8:=.int .i64 id2) (v9:=.int .i64 k2) Y3.out)
 have uK:=ak (jA HB1.out HST.out (fun k hk=>by rw [hk];omega) HB1.out.size)
 obtain ⟨r0,r1,r2,r3,r4,r5,r6,r7,r8,r9⟩:=rM.out.ji rfl
 go_wp2
 refine qC (v:=.agg #[.slice a0 C2.length c0,.slice a1 P2.length c1,.slice a2 Q2.length c2,.int .i64 hf2,.slice a3 N2.length c3,.slice a4 T2.length c4,.slice a5 U2.length c5,.int .i64 Af,.int .i64 id2,.int .i64 k2]) (by simp [results,Tryz.results18,go_sem, *]) rfl ⟨[.slice a0 C2.length c0,.slice a1 P2.length c1,.slice a2 Q2.length c2,.int .i64 hf2,.slice a3 N2.length c3,.slice a4 T2.length c4,.slice a5 U2.length c5,.int .i64 Af,.int .i64 id2,.int .i64 k2],rfl,?_,uK.out⟩
 rw [Xy.out]
 have hsz:=HST.out.size
 exact aY.pU (aY.bT HU.out fun q hq=>HST.out.block q hq.2 (by have:=hq.1;show ¬q=W.heap.size+1+1+1;omega)) fun q hq=>⟨by have:=hq.1;omega,by have:=hq.2;omega⟩
end
section
open Go.RowKit bN bO 
theorem Z8 {L:List Int}{a:Option Addr}{cap:Nat}{n:Int}{W:World}(hn:L.length≤1048576)(h:aJ I W W.heap.size L a cap) :
 Calls Tryz.prog 51 #[.slice a L.length cap,.int .i64 n] W fun e w'=>∃ b:Bool,e=.returned (.bool b)∧(b=true↔n∈L)∧w'=W:=by
 have H:=ak h
 clear h
 go_enter Tryz.func51,Tryz.ntmps51
 go_wp2
 go_loopw [5] (fun i wr=>∃ k:Nat,k≤L.length∧i=.int .i64 k∧Hid (n ∉ L.take k)∧wr=W) (fun i _=>L.length-(intOf i).toNat)
 case atStart=>exact ⟨0,dV _,rfl,ak (by simp),rfl⟩
 case round=>
  obtain ⟨k,hk,rfl,HN,rfl⟩:=hrel
  by_cases hlt:k<L.length
  ·obtain ⟨x,hx⟩:=aM hlt
   have hcr:=H.out
   obtain ⟨g,o,us,rfl,hg,hu,hr⟩:=hcr.at_ hx
   obtain rfl:us = [.int .i64 x]:=hr
   have e0:wr.cell? ⟨g,o+k,none⟩=some (.int .i64 x):=by simpa [show I.size=1 from rfl] using hu 0 _ rfl
   have hi0:(0:Int)≤(k:Int):=eu _
   have hi1:(k:Int)<(L.length:Int):=by omega
   have HX:=ak hx
   clear hcr hu hx
   by_cases hxn:x=n
   ·have hb:(x==n)=true:=by simp [hxn]
    have hm:n∈L:=hxn ▸ List.mem_of_getElem? HX.out
    clear hxn
    go_wp2
    go_ret
    exact ⟨true,rfl,by simp [hm],rfl⟩
   ·have hb:(x==n)=false:=by simp [hxn]
    have HT:=ak (show n ∉ L.take (k+1) from by
     rw [List.take_add_one,HX.out]
     simp only [Option.toList_some,List.mem_append,List.mem_singleton,not_or]
     exact ⟨HN.out,fun e=>hxn e.symm⟩)
    clear hxn
    go_wp2
    go_roundw
    case rel=>exact ⟨k+1,by omega,by go_num,HT,trivial⟩
    case measure=>simp [intOf];omega
  ·have hdl:decide ((k:Int)<(L.length:Int))=false:=dS (by omega)
   obtain rfl:k=L.length:=by omega
   have hm:n ∉ L:=by have h:=HN.out;rwa [List.take_length] at h
   go_wp2
   go_ret
   exact ⟨false,rfl,by simp [hm],rfl⟩
end
section
open Go.RowKit bN bO bJ bQ
theorem qY (c:Int)(W:World):Calls Tryz.prog 106 #[.int .i64 c] W fun e w'=>e=.returned (.agg #[.slice none 0 0,.int .i64 c])∧Below W.heap.size W w':=by
 have HX:=ak (aO.new W 95 #[.slice none 0 0,.int .i64 0])
 go_enter Tryz.func106,Tryz.ntmps106
 go_wp2
 refine qC (v:=.agg #[.slice none 0 0,.int .i64 c]) (by simp [results,Tryz.results106,go_sem, *]) rfl ⟨rfl,?_⟩
 first | exact (aW _ _).alloc (bK _) _ | exact ((aW _ _).alloc (bK _) _).setCell (by first | omega | simp) _
theorem K9 {L:List aP}(a:Option Addr)(cap:Nat)(n:Int)(w:World)(hL:L.length≤4096) :
 Calls Tryz.prog 108 #[.slice a L.length cap,.int .i64 n] w fun e w'=>e=.returned (.bool (dD n 0 ((L.length:Int)-1)))∧w=w':=by
 by_cases h1:0≤n
 ·by_cases h2:n<L.length
  ·have hb:dD n 0 ((L.length:Int)-1)=true:=(dG _ _ _).2 ⟨h1,by omega⟩
   rw [hb];clear hb
   go_enter Tryz.func108,Tryz.ntmps108
   go_wp2
   go_ret
   exact ⟨rfl,rfl⟩
  ·have hb:dD n 0 ((L.length:Int)-1)=false:=by
    cases hq:dD n 0 ((L.length:Int)-1) with
    | false=>rfl
    | true=>have:=(dG _ _ _).1 hq;omega
   rw [hb];clear hb
   have h2':decide (n<(L.length:Int))=false:=by simpa using h2
   go_enter Tryz.func108,Tryz.ntmps108
   go_wp2
   go_ret
   exact ⟨rfl,rfl⟩
 ·have hb:dD n 0 ((L.length:Int)-1)=false:=by
   cases hq:dD n 0 ((L.length:Int)-1) with
   | false=>rfl
   | true=>have:=(dG _ _ _).1 hq;omega
  rw [hb];clear hb
  have h1':decide (0≤n)=false:=by simpa using h1
  go_enter Tryz.func108,Tryz.ntmps108
  go_wp2
  go_ret
  exact ⟨rfl,rfl⟩
theorem VI {L:List aP}{n st:Int}{a:Option Addr}{cap:Nat}{W:World}(h:aJ aL W W.heap.size L a cap) :
 Calls Tryz.prog 49 #[.slice a L.length cap,.int .i64 n,.int .i64 st] W (kT eX (lg L n (dD st 1 3) (lY st)) W):=by
 obtain ⟨w0,hw0⟩:∃ w,w=W.alloc (.cells #[.slice none 0 0,.int .i64 0] 95):=⟨_,rfl⟩
 have hb0:Below W.heap.size W w0:=by rw [hw0];exact (aW _ _).alloc (bK _) _
 have X0:=ak (show aO w0 W.heap.size 95 #[.slice none 0 0,.int .i64 0] from by rw [hw0];exact aO.new _ _ _)
 have H0:=ak (qR aK h hb0)
 have HB0:=ak hb0
 have hnn:=EK h
 have hz0:=hb0.size
 have hs:=Hw H0.out
 obtain ⟨z,hz⟩:∃ z,iU L=z:=⟨_,rfl⟩
 rw [hz] at hs
 have HZ:=ak hz
 clear h hz hb0
 by_cases CV:400<L.length
 ·have HE:=ak (Em (n:=n) (ok:=dD st 1 3) (ng:=lY st) CV)
  have hd:decide ((400:Int)<(L.length:Int))=true:=eD (by omega)
  go_enter Tryz.func49,Tryz.ntmps49
  go_wp2_with fail
  rw [←hw0]
  clear hw0
  refine (qY 2 _).mono ?_
  rintro e w9 ⟨rfl,xE⟩
  have X9:=ak (X0.out.call xE)
  have mY:=ak (HB0.out.trans (xE.mono HB0.out.size))
  obtain ⟨q0,q1⟩:=X9.out.kS rfl
  obtain ⟨f0,f1⟩:=X9.out.Ae
  clear xE
  go_wp2
  first | rw [HE.out] | rw [HZS.out,HE.out]
  refine qC (v:=.agg #[.slice none 0 0,.int .i64 2]) (by simp [results,Tryz.results49,go_sem, *]) rfl (kI ?_)
  exact (mY.out.setCell (p:=⟨W.heap.size,0,none⟩) (show W.heap.size≤W.heap.size by omega) _).setCell (p:=⟨W.heap.size,1,none⟩) (show W.heap.size≤W.heap.size by omega) _
 have hd:decide ((400:Int)<(L.length:Int))=false:=dS (by omega)
 go_enter Tryz.func49,Tryz.ntmps49
 go_wp2_with fail
 rw [←hw0]
 clear hw0
 refine hs.mono ?_
 intro e w1 h
 obtain ⟨rfl,hb⟩:=bU h
 have XR:=ak (X0.out.call hb)
 have H1:=ak (qR aK H0.out hb)
 have HB1:=ak (HB0.out.trans (hb.mono hz0))
 clear h hb hs
 cases z with
 | false=>
  have HE:=ak (sH (n:=n) (ok:=dD st 1 3) (ng:=lY st) CV (by rw [HZ.out];rfl))
  go_wp2_with fail
  refine (qY 1 _).mono ?_
  rintro e w9 ⟨rfl,xE⟩
  have X9:=ak (XR.out.call xE)
  have mY:=ak (HB1.out.trans (xE.mono HB1.out.size))
  obtain ⟨q0,q1⟩:=X9.out.kS rfl
  obtain ⟨f0,f1⟩:=X9.out.Ae
  clear xE
  go_wp2
  first | rw [HE.out] | rw [HZS.out,HE.out]
  refine qC (v:=.agg #[.slice none 0 0,.int .i64 1]) (by simp [results,Tryz.results49,go_sem, *]) rfl (kI ?_)
  exact (mY.out.setCell (p:=⟨W.heap.size,0,none⟩) (show W.heap.size≤W.heap.size by omega) _).setCell (p:=⟨W.heap.size,1,none⟩) (show W.heap.size≤W.heap.size by omega) _
 | true=>
 obtain ⟨zs,hzs⟩:∃ zs,dD st 1 3=zs:=⟨_,rfl⟩
 have hst:=fun W=>uW st W
 rw [hzs] at hst
 have HZS:=ak hzs
 rw [hzs]
 clear hzs
 cases zs with
 | false=>
  have HE:=ak (sH (n:=n) (ok:=false) (ng:=lY st) CV (by rw [HZ.out];rfl))
  go_wp2_with (first | (go_at_call 107;refine (hst _).mono ?_;rintro e w' ⟨rfl,rfl⟩) | fail)
  refine (qY 1 _).mono ?_
  rintro e w9 ⟨rfl,xE⟩
  have X9:=ak (XR.out.call xE)
  have mY:=ak (HB1.out.trans (xE.mono HB1.out.size))
  obtain ⟨q0,q1⟩:=X9.out.kS rfl
  obtain ⟨f0,f1⟩:=X9.out.Ae
  clear xE
  go_wp2
  first | rw [HE.out] | rw [HZS.out,HE.out]
  refine qC (v:=.agg #[.slice none 0 0,.int .i64 1]) (by simp [results,Tryz.results49,go_sem, *]) rfl (kI ?_)
  exact (mY.out.setCell (p:=⟨W.heap.size,0,none⟩) (show W.heap.size≤W.heap.size by omega) _).setCell (p:=⟨W.heap.size,1,none⟩) (show W.heap.size≤W.heap.size by omega) _
 | true=>
 have HZO:=ak (show (iU L&&true)=true from by rw [HZ.out];rfl)
 have hN:=gG.1 HZ.out
 have hsm:=lJ hN
 have hL1:=hN.1.1
 have hL6:=hN.1.2
 have HN:=ak hN
 clear hN
 obtain ⟨y,hy⟩:∃ y,dD n 0 ((L.length:Int)-1)=y:=⟨_,rfl⟩
 have hi:=fun W=>K9 (L:=L) a cap n W hsm.1
 rw [hy] at hi
 have HY:=ak hy
 clear hy
 cases y with
 | false=>
  have HE:=ak (yE (ng:=lY st) CV HZO.out HY.out)
  go_wp2_with (first | (go_at_call 107;refine (hst _).mono ?_;rintro e w' ⟨rfl,rfl⟩) | (go_at_call 108;refine (hi _).mono ?_;rintro e w' ⟨rfl,rfl⟩) | fail)
  refine (qY 6 _).mono ?_
  rintro e w9 ⟨rfl,xE⟩
  have X9:=ak (XR.out.call xE)
  have mY:=ak (HB1.out.trans (xE.mono HB1.out.size))
  obtain ⟨q0,q1⟩:=X9.out.kS rfl
  obtain ⟨f0,f1⟩:=X9.out.Ae
  clear xE
  go_wp2
  first | rw [HE.out] | rw [HZS.out,HE.out]
  refine qC (v:=.agg #[.slice none 0 0,.int .i64 6]) (by simp [results,Tryz.results49,go_sem, *]) rfl (kI ?_)
  exact (mY.out.setCell (p:=⟨W.heap.size,0,none⟩) (show W.heap.size≤W.heap.size by omega) _).setCell (p:=⟨W.heap.size,1,none⟩) (show W.heap.size≤W.heap.size by omega) _
 | true=>
  have hnb:=(dG _ _ _).1 HY.out
  obtain ⟨m,rfl⟩:∃ m:Nat,n=m:=⟨n.toNat,by omega⟩
  have hm:m<L.length:=by omega
  obtain ⟨x,hx⟩:=aM hm
  obtain ⟨gl,o,us,rfl,hg,hu,hr⟩:=H1.out.at_ hx
  obtain ⟨s,M⟩:=x
  obtain ⟨ba,bc,rfl,hM⟩:=kH hr
  have e0:w1.cell? ⟨gl,o+m*2,none⟩=some (.int .i64 s):=by simpa [eT] using hu 0 _ rfl
  have hv:=E5 (ng:=lY st) CV HZO.out hx
  have HX:=ak hx
  have hi0:(0:Int)≤(m:Int):=eu _
  have hi1:(m:Int)<(L.length:Int):=by omega
  clear hx hnb hu hr hM
  by_cases hs:s=st
  ·rw [DN hs,if_neg (show ¬(10:Int)=0 by decide)] at hv
   have HE:=ak hv
   have hq:(s==st)=true:=beq_iff_eq.2 hs
   clear hs hv
   go_wp2_with (first | (go_at_call 107;refine (hst _).mono ?_;rintro e w' ⟨rfl,rfl⟩) | (go_at_call 108;refine (hi _).mono ?_;rintro e w' ⟨rfl,rfl⟩) | fail)
   refine (qY 10 _).mono ?_
   rintro e w9 ⟨rfl,xE⟩
   have X9:=ak (XR.out.call xE)
   have mY:=ak (HB1.out.trans (xE.mono HB1.out.size))
   obtain ⟨q0,q1⟩:=X9.out.kS rfl
   obtain ⟨f0,f1⟩:=X9.out.Ae
   clear xE
   go_wp2
   first | rw [HE.out] | rw [HZS.out,HE.out]
   refine qC (v:=.agg #[.slice none 0 0,.int .i64 10]) (by simp [results,Tryz.results49,go_sem, *]) rfl (kI ?_)
   exact (mY.out.setCell (p:=⟨W.heap.size,0,none⟩) (show W.heap.size≤W.heap.size by omega) _).setCell (p:=⟨W.heap.size,1,none⟩) (show W.heap.size≤W.heap.size by omega) _
  ·rw [G9 hs,if_pos rfl] at hv
   have HV:=ak hv
   have hq:(s==st)=false:=beq_eq_false_iff_ne.2 hs
   obtain ⟨RR,hRR⟩:∃ R,L.set m (st,M)=R:=⟨_,rfl⟩
   have HRL:=ak (show RR.length=L.length from by rw [←hRR,List.length_set])
   rw [show (L.set m (((0:Int),((st,M):aP)).2))=RR from hRR] at HV
   clear hs hv
   go_wp2_with (first | (go_at_call 107;refine (hst _).mono ?_;rintro e w' ⟨rfl,rfl⟩) | (go_at_call 108;refine (hi _).mono ?_;rintro e w' ⟨rfl,rfl⟩) | fail)
   refine (ql hsm.1 hsm.2 H1.out).mono ?_
   intro e w2 h
   obtain ⟨a',c',rfl,ho,hb⟩:=bL h
   obtain ⟨g,Sf,rfl,hrow⟩:=ho.row (by omega)
   have hc1:=ho.1
   have hc2:=ho.2.1
   obtain ⟨us,hu,hr⟩:=hrow.el m _ HX.out
   obtain ⟨ba2,bc2,T0,rfl,hT0,hO⟩:=zT hr
   rw [eT] at hu
   have d0:w2.cell? ⟨g,m*2,none⟩=some (.int .i64 s):=by simpa using hu 0 _ rfl
   have d1:w2.cell? ⟨g,m*2+1,none⟩=some (.slice ba2 M.length bc2):=hu 1 _ rfl
   have s0:=hrow.soft (m*2)
   have hgl:=hrow.own.2
   have hset:∀ q,q≠g→(w2.setCell ⟨g,m*2,none⟩ (.int .i64 st)).heap[q]? = w2.heap[q]?:=fun q hq=>Below.heap_setCell w2 ⟨g,m*2,none⟩ _ q hq
   have hrow2:=hrow.set aK (fun q hq=>hq.2) (x:=(st,M)) (us:=[.int .i64 st,.slice ba2 M.length bc2]) (W':=w2.setCell ⟨g,m*2,none⟩ (.int .i64 st)) (by rw [eT];exact ni.set (lo:=m*2) (hi:=(m+1)*2) _ _ ⟨by omega,by omega⟩ _) (fun j d hd=>by
    rw [eT]
    match j,hd with
    | 0,hd=>simp at hd;subst hd;exact World.cell?_setCell_same _ _ _ d0
    | 1,hd=>simp at hd;subst hd;rw [World.cell?_setCell_other _ _ _ _ (fun e=>by injection e with _ e2;omega)];exact d1
    | j+2,hd=>simp at hd) (lS hT0 (hO.keep bG fun q hq=>hset q (hrow.sub m q (hT0 q hq)).2))
   rw [hRR] at hrow2
   have hlt1:=XR.out.lt
   have hz2:=hb.size
   have hgw:w1.heap.size≤g:=hrow.own.1
   have hx6:aO (w2.setCell ⟨g,m*2,none⟩ (.int .i64 st)) W.heap.size 95 #[.slice none 0 0,.int .i64 0]:=(XR.out.call hb).far (by omega) _
   have hb6:Below W.heap.size W (w2.setCell ⟨g,m*2,none⟩ (.int .i64 st)):=(HB1.out.trans (hb.mono HB1.out.size)).setCell (p:=⟨g,m*2,none⟩) (show W.heap.size≤g by omega) _
   obtain ⟨S',hSS⟩:∃ S',S'=Rg w1.heap.size w2.heap.size:=⟨_,rfl⟩
   rw [←hSS] at hrow2
   have hs6:∀ q,S' q→W.heap.size<q∧q<(w2.setCell ⟨g,m*2,none⟩ (.int .i64 st)).heap.size:=fun q hq=>by rw [hSS] at hq;obtain ⟨h1,h2⟩:=hq;simp;omega
   clear h ho hb hu hr hO hset hrow d1 hi hst hRR hSS
   have hrow:=hrow2
   clear hrow2
   have X6:=ak hx6
   have xC:=ak hb6
   have HROW:=ak hrow
   have HS6:=ak hs6
   obtain ⟨q0,q1⟩:=X6.out.kS rfl
   obtain ⟨f0,f1⟩:=X6.out.Ae
   clear hx6 hb6 hrow hs6
   go_wp2
   rw [HZS.out,HV.out]
   refine qC (v:=.agg #[.slice (some ⟨g,0,none⟩) L.length c',.int .i64 0]) (by simp [results,Tryz.results49,go_sem, *]) rfl ⟨[.slice (some ⟨g,0,none⟩) RR.length c',.int .i64 0],by rw [HRL.out],?_,(xC.out.setCell (p:=⟨W.heap.size,0,none⟩) (show W.heap.size≤W.heap.size by omega) _).setCell (p:=⟨W.heap.size,1,none⟩) (show W.heap.size≤W.heap.size by omega) _⟩
   refine oI (T0:=S') (fun q hq=>⟨?_,?_⟩) ((HROW.out.slice (by rw [HRL.out];exact hc1) hc2).keep aK fun q hq=>?_)
   ·have:=(HS6.out q hq).1
    omega
   ·have:=(HS6.out q hq).2
    simpa using this
   ·have h9:=(HS6.out q hq).1
    rw [Below.heap_setCell _ ⟨W.heap.size,1,none⟩ _ q (show q≠W.heap.size by omega),Below.heap_setCell _ ⟨W.heap.size,0,none⟩ _ q (show q≠W.heap.size by omega)]
end
section
open Go.RowKit bN bO bJ bQ zI XM eO
noncomputable def nK (n st:Int)(x:aF):aF:=if st=3 then kL n x else x
theorem IX {x:aF}(h:bZ x):(jF x).length≤1048576:=by
 obtain ⟨⟨x0,x1⟩,x2,x3,x4,x5,x6,⟨x7,x8⟩,x9,x10,aS,aV,M⟩:=x
 obtain ⟨_,_,_,hn,_,_,_,_,_,hp,hz⟩:=h
 have h6:=(dG _ _ _).1 hn
 by_cases hh:Has aS M
 ·have h2:=(hp hh).2.1
  show M.length≤_
  omega
 ·have h2:=(hz hh).2
  show M.length≤_
  omega
theorem Dc {C:List (List ay)}{P:List bA}{Q:List aX}{hf:Int}{ca pa qa:Option Addr}{cc pc qc:Nat}{N:List aP}{T:List aF}{U:List bI}{now:Int}{na ta ua:Option Addr}{nc tc uc:Nat}{n st:Int}{W:World}(hq:Q.length≤1048576)(hts:(Sl aI).sz T≤1048576)(hC:aJ (Sl av) W W.heap.size C ca cc)(hP:aJ aT W W.heap.size P pa pc)(hQ:aJ aN W W.heap.size Q qa qc)(hN:aJ aL W W.heap.size N na nc)(hT:aJ aI W W.heap.size T ta tc)(hU:aJ bC W W.heap.size U ua uc) :
 Calls Tryz.prog 17 #[.agg #[.slice ca C.length cc,.slice pa P.length pc,.slice qa Q.length qc,.int .i64 hf,.slice na N.length nc,.slice ta T.length tc,.slice ua U.length uc,.int .i64 now],.int .i64 n,.int .i64 st] W (kT cB (xL ((C,P,Q,hf),N,T,U,now) (pq ((C,P,Q,hf),N,T,U,now) n st)) W):=by
 obtain ⟨DR,hDR⟩:∃ d,xL ((C,P,Q,hf),N,T,U,now) (pq ((C,P,Q,hf),N,T,U,now) n st)=d:=⟨_,rfl⟩
 have HDR:=ak hDR
 rw [hDR]
 clear hDR
 obtain ⟨z,hz⟩:∃ z,vR ((C,P,Q,hf),N,T,U,now)=z:=⟨_,rfl⟩
 have HZ:=ak hz
 clear hz
 have JU:=ak hC
 have FM:=ak hP
 have JQ:=ak hQ
 have JR:=ak hN
 have MW:=ak hT
 have MV:=ak hU
 clear hC hP hQ hN hT hU
 obtain ⟨w0,hw0⟩:∃ w,w=(W.alloc (.cells #[.slice ca C.length cc,.slice pa P.length pc,.slice qa Q.length qc,.int .i64 hf,.slice na N.length nc,.slice ta T.length tc,.slice ua U.length uc,.int .i64 now] 44)).alloc (.cells #[.slice none 0 0,.slice none 0 0,.slice none 0 0,.int .i64 0,.slice none 0 0,.slice none 0 0,.slice none 0 0,.int .i64 0,.int .i64 0,.int .i64 0] 46):=⟨_,rfl⟩
 have hb0:Below W.heap.size W w0:=by rw [hw0];exact ((aW _ _).alloc (bK _) _).alloc (by simp) _
 have kW:aO w0 (W.heap.size) 44 #[.slice ca C.length cc,.slice pa P.length pc,.slice qa Q.length qc,.int .i64 hf,.slice na N.length nc,.slice ta T.length tc,.slice ua U.length uc,.int .i64 now]:=by
  have h9:=aO.new W 44 #[.slice ca C.length cc,.slice pa P.length pc,.slice qa Q.length qc,.int .i64 hf,.slice na N.length nc,.slice ta T.length tc,.slice ua U.length uc,.int .i64 now]
  try simp only [World.size_alloc] at h9
  rw [hw0];exact (h9.alloc _)
 have X0:=ak kW
 have qH:aO w0 (W.heap.size+1) 46 #[.slice none 0 0,.slice none 0 0,.slice none 0 0,.int .i64 0,.slice none 0 0,.slice none 0 0,.slice none 0 0,.int .i64 0,.int .i64 0,.int .i64 0]:=by
  have h9:=aO.new (W.alloc (.cells #[.slice ca C.length cc,.slice pa P.length pc,.slice qa Q.length qc,.int .i64 hf,.slice na N.length nc,.slice ta T.length tc,.slice ua U.length uc,.int .i64 now] 44)) 46 #[.slice none 0 0,.slice none 0 0,.slice none 0 0,.int .i64 0,.slice none 0 0,.slice none 0 0,.slice none 0 0,.int .i64 0,.int .i64 0,.int .i64 0]
  try simp only [World.size_alloc] at h9
  rw [hw0];exact h9
 have X1:=ak qH
 have HB0:=ak hb0
 have hz0:=hb0.size
 clear hb0  kW qH
 have hs0:w0.heap.size=W.heap.size+1+1:=by rw [hw0];simp
 go_enter Tryz.func17,Tryz.ntmps17
 go_upto_region 1 with fail
 rw [←hw0]
 clear hw0
 obtain ⟨dB,dA,dz,dx,fU,fT,fQ,fP⟩:=X0.out.gy rfl
 go_wp2_with fail
 refine (Qo (aD (aZ au) JU.out HB0.out) (aD aG FM.out HB0.out) (aD aC JQ.out HB0.out) (aD aK JR.out HB0.out) (aD aA MW.out HB0.out) (aD aU MV.out HB0.out) (hf:=hf) (now:=now)).mono ?_
 intro e w1 h
 obtain ⟨b,rfl,hbz,hb⟩:=bq h
 obtain rfl:b=z:=by
  have h1:=HZ.out
  have h2:=rW (y:=((C,P,Q,hf),N,T,U,now))
  cases b <;> cases z <;> simp_all
 have HB1:=ak (HB0.out.trans (hb.mono hz0))
 have Y0:=ak (X0.out.call hb)
 have Y1:=ak (X1.out.call hb)
 have hz1:w0.heap.size≤w1.heap.size:=hb.size
 clear h hb hbz X0 X1 dB dA dz dx fU fT fQ fP
 cases b with
 | false=>
  obtain rfl:DR=jw 1:=HDR.out.symm.trans (EZ HZ.out)
  go_wp2_with fail
  refine (Vd 1 w1).mono ?_
  rintro e w2 ⟨rfl,hb⟩
  have HB2:=ak (HB1.out.trans (hb.mono HB1.out.size))
  have Y2:=ak (Y1.out.call hb)
  clear hb
  obtain ⟨q0,q1,q2,q3,q4,q5,q6,q7,q8,q9⟩:=Y2.out.ji rfl
  obtain ⟨f0,f1,f2,f3,f4,f5,f6,f7,f8,f9⟩:=Y2.out.Au
  have HST:=ak (iP w2 (W.heap.size+1) (.slice none 0 0) (.slice none 0 0) (.slice none 0 0) (.int .i64 0) (.slice none 0 0) (.slice none 0 0) (.slice none 0 0) (.int .i64 0) (.int .i64 0) (.int .i64 1))
  have rM:=ak (iQ (w:=w2) (g:=W.heap.size+1) (v0:=.slice none 0 0) (v1:=.slice none 0 0) (v2:=.slice none 0 0) (v3:=.int .i64 0) (v4:=.slice none 0 0) (v5:=.slice none 0 0) (v6:=.slice none 0 0) (v7:=.int .i64 0) (v8:=.int .i64 0) (v9:=.int .i64 1) Y2.out)
  have uK:=ak (jA HB2.out HST.out (fun k hk=>by rw [hk];omega) HB2.out.size)
  obtain ⟨r0,r1,r2,r3,r4,r5,r6,r7,r8,r9⟩:=rM.out.ji rfl
  go_wp2
  refine qC (v:=.agg #[.slice none 0 0,.slice none 0 0,.slice none 0 0,.int .i64 0,.slice none 0 0,.slice none 0 0,.slice none 0 0,.int .i64 0,.int .i64 0,.int .i64 1]) (by simp [results,Tryz.results17,go_sem, *]) rfl ⟨[.slice none 0 0,.slice none 0 0,.slice none 0 0,.int .i64 0,.slice none 0 0,.slice none 0 0,.slice none 0 0,.int .i64 0,.int .i64 0,.int .i64 1],rfl,mk_zero 1,uK.out⟩
 | true=>
 obtain rfl:pq ((C,P,Q,hf),N,T,U,now) n st=DR:=(HDR.out.symm.trans (Bu HZ.out)).symm
 have XO:=ak (rW.1 HZ.out)
 obtain ⟨TB,TA,Tz,Tx,Tw,Tv,Tt,Tq⟩:=Y0.out.gy rfl
 go_wp2_with fail
 refine (VI (aD aK JR.out HB1.out)).mono ?_
 intro e w2 h
 obtain ⟨⟨R,cd⟩,hd⟩:∃ d,lg N n (dD st 1 3) (lY st)=d:=⟨_,rfl⟩
 rw [hd] at h
 have HFV:=ak (show pq ((C,P,Q,hf),N,T,U,now) n st=yG (qB ((C,P,Q,hf),N,T,U,now) n st) R cd from by unfold pq;rw [hd])
 obtain ⟨us,rfl,hu,hb⟩:=bY h
 obtain ⟨ra,rc,SN,rfl,hSN,ho⟩:=ru hu
 have vJ:=ak ho
 have HSN:=ak hSN
 have HB2:=ak (HB1.out.trans (hb.mono HB1.out.size))
 have Y0:=ak (Y0.out.call hb)
 have Y1:=ak (Y1.out.call hb)
 have hz2:w1.heap.size≤w2.heap.size:=hb.size
 clear h hu ho hSN hb hd TB TA Tz Tx Tw Tv Tt Tq
 obtain ⟨w3,hw3⟩:∃ w,w=w2.alloc (.cells #[.slice ra R.length rc,.int .i64 cd] 95):=⟨_,rfl⟩
 have PY:Below w2.heap.size w2 w3:=by rw [hw3];exact (aW _ _).alloc (bK _) _
 have K3:=ak (show aO w3 w2.heap.size 95 #[.slice ra R.length rc,.int .i64 cd] from by rw [hw3];exact aO.new _ _ _)
 have hz3:w2.heap.size≤w3.heap.size:=PY.size
 have hl3:=K3.out.lt
 have HB3:=ak (HB2.out.trans (PY.mono HB2.out.size))
 have Z0:=ak (Y0.out.call PY)
 have Z1:=ak (Y1.out.call PY)
 have HB23:=ak PY
 obtain ⟨p0,p1⟩:=K3.out.kS rfl
 go_upto_region 4 with fail
 rw [←hw3]
 clear hw3 PY Y0 Y1
 by_cases hcd:cd=0
 rotate_left
 ·have hcb:(cd != 0)=true:=by simp [hcd]
  have HFC:=ak (HFV.out.trans (wP _ _ hcd))
  go_wp2_with fail
  refine (Vd cd w3).mono ?_
  rintro e w4 ⟨rfl,hb⟩
  have jL:=ak (HB3.out.trans (hb.mono HB3.out.size))
  have Y4:=ak (Z1.out.call hb)
  clear hb p0 p1
  obtain ⟨q0,q1,q2,q3,q4,q5,q6,q7,q8,q9⟩:=Y4.out.ji rfl
  obtain ⟨f0,f1,f2,f3,f4,f5,f6,f7,f8,f9⟩:=Y4.out.Au
  have HST:=ak (iP w4 (W.heap.size+1) (.slice none 0 0) (.slice none 0 0) (.slice none 0 0) (.int .i64 0) (.slice none 0 0) (.slice none 0 0) (.slice none 0 0) (.int .i64 0) (.int .i64 0) (.int .i64 cd))
  have rM:=ak (iQ (w:=w4) (g:=W.heap.size+1) (v0:=.slice none 0 0) (v1:=.slice none 0 0) (v2:=.slice none 0 0) (v3:=.int .i64 0) (v4:=.slice none 0 0) (v5:=.slice none 0 0) (v6:=.slice none 0 0) (v7:=.int .i64 0) (v8:=.int .i64 0) (v9:=.int .i64 cd) Y4.out)
  have uK:=ak (jA jL.out HST.out (fun k hk=>by rw [hk];omega) jL.out.size)
  obtain ⟨r0,r1,r2,r3,r4,r5,r6,r7,r8,r9⟩:=rM.out.ji rfl
  go_wp2
  refine qC (v:=.agg #[.slice none 0 0,.slice none 0 0,.slice none 0 0,.int .i64 0,.slice none 0 0,.slice none 0 0,.slice none 0 0,.int .i64 0,.int .i64 0,.int .i64 cd]) (by simp [results,Tryz.results17,go_sem, *]) rfl ⟨[.slice none 0 0,.slice none 0 0,.slice none 0 0,.int .i64 0,.slice none 0 0,.slice none 0 0,.slice none 0 0,.int .i64 0,.int .i64 0,.int .i64 cd],rfl,by rw [HFC.out];exact mk_zero cd,uK.out⟩
 subst hcd
 have HFC:=ak (HFV.out.trans (oV _ _))
 obtain ⟨acZ,acY,acX,acW,acV,acU,acT,acS⟩:=Z0.out.gy rfl
 go_wp2_with fail
 have hNl:=lJ XO.out.2.2.1
 have hRR:=XO.out.2.1
 refine (FB hRR.1 (eF hRR.2.2.2.1.1 (by omega)) hq hNl.1 hNl.2 (eF XO.out.2.2.2.2.1.1 (by omega)) hts (eF XO.out.2.2.2.2.2.1.1 (by omega)) (aD (aZ au) JU.out HB3.out) (aD aG FM.out HB3.out) (aD aC JQ.out HB3.out) (aD aK JR.out HB3.out) (aD aA MW.out HB3.out) (aD aU MV.out HB3.out) (hf:=hf) (now:=now)).mono ?_
 intro e w4 h
 obtain ⟨us,rfl,hu,hb⟩:=bY h
 obtain ⟨qF,cc',pa',pc',nH,nG,na',xu,oo,mZ,qE,qD,T0,T1,T2,T3,T4,T5,rfl,s0,s1,s2,s3,s4,s5,d01,d02,d03,d04,d05,MF,Sr,d14,d15,d23,d24,d25,d34,d35,d45,o0,o1,o2,o3,o4,o5⟩:=ER hu
 have HS:=ak (show (∀ k,T0 k→Rg w3.heap.size w4.heap.size k)∧(∀ k,T1 k→Rg w3.heap.size w4.heap.size k)∧(∀ k,T2 k→Rg w3.heap.size w4.heap.size k)∧(∀ k,T4 k→Rg w3.heap.size w4.heap.size k)∧(∀ k,T5 k→Rg w3.heap.size w4.heap.size k) from ⟨s0,s1,s2,s4,s5⟩)
 have HDJ:=ak (show (∀ k,T0 k→¬T1 k)∧(∀ k,T0 k→¬T2 k)∧(∀ k,T0 k→¬T4 k)∧(∀ k,T0 k→¬T5 k)∧(∀ k,T1 k→¬T2 k)∧(∀ k,T1 k→¬T4 k)∧(∀ k,T1 k→¬T5 k)∧(∀ k,T2 k→¬T4 k)∧(∀ k,T2 k→¬T5 k)∧(∀ k,T4 k→¬T5 k) from ⟨d01,d02,d04,d05,MF,d14,d15,d24,d25,d45⟩)
 have HO:=ak (show bH (Sl av) w4 T0 C qF cc'∧bH aT w4 T1 P pa' pc'∧bH aN w4 T2 Q nH nG∧bH aI w4 T4 T oo mZ∧bH bC w4 T5 U qE qD from ⟨o0,o1,o2,o4,o5⟩)
 have jL:=ak (HB3.out.trans (hb.mono HB3.out.size))
 have Z1:=ak (Z1.out.call hb)
 have K4:=ak (K3.out.call hb)
 have rO:=ak ((vJ.out.keep aK fun q hq=>HB23.out.block q (HSN.out q hq).2).keep aK fun q hq=>hb.block q (bV (HSN.out q hq).2 hz3))
 have lW:w3.heap.size≤w4.heap.size:=hb.size
 clear h hu hb s0 s1 s2 s3 s4 s5 d01 d02 d03 d04 d05 MF Sr d14 d15 d23 d24 d25 d34 d35 d45 o0 o1 o2 o3 o4 o5 hNl hRR p0 p1 acZ acY acX acW acV acU acT acS K3
 obtain ⟨w5,Dm⟩:∃ w,w=w4.alloc (.cells #[.slice qF C.length cc',.slice pa' P.length pc',.slice nH Q.length nG,.int .i64 hf,.slice na' N.length xu,.slice oo T.length mZ,.slice qE U.length qD,.int .i64 now] 44):=⟨_,rfl⟩
 have PX:Below w4.heap.size w4 w5:=by rw [Dm];exact (aW _ _).alloc (bK _) _
 have K5:=ak (show aO w5 w4.heap.size 44 #[.slice qF C.length cc',.slice pa' P.length pc',.slice nH Q.length nG,.int .i64 hf,.slice na' N.length xu,.slice oo T.length mZ,.slice qE U.length qD,.int .i64 now] from by rw [Dm];exact aO.new _ _ _)
 have uI:w4.heap.size≤w5.heap.size:=PX.size
 have hl5:=K5.out.lt
 have lX:=ak (jL.out.trans (PX.mono jL.out.size))
 have Z1:=ak (Z1.out.call PX)
 have N5:=ak (K4.out.call PX)
 have HB45:=ak PX
 go_upto_region 7 with fail
 rw [←Dm]
 clear Dm PX K4
 have n0:=N5.out.at_ 0 rfl
 have y4:=K5.out.at_ 4 rfl
 have g4:=K5.out.soft 4
 obtain ⟨w6,hw6⟩:∃ w,w=w5.setCell ⟨w4.heap.size,4,none⟩ (.slice ra R.length rc):=⟨_,rfl⟩
 have Tf:Below w4.heap.size w5 w6:=by rw [hw6];exact (aW _ _).setCell (p:=⟨w4.heap.size,4,none⟩) (bK _) _
 have K6:=ak (show aO w6 w4.heap.size 44 #[.slice qF C.length cc',.slice pa' P.length pc',.slice nH Q.length nG,.int .i64 hf,.slice ra R.length rc,.slice oo T.length mZ,.slice qE U.length qD,.int .i64 now] from by rw [hw6];exact aO.as (K5.out.set 4 _) (by kernel_rfl))
 have xC:=ak (lX.out.trans (Tf.mono (eF jL.out.size (bK _))))
 have Z6:=ak (aO.lowb Z1.out (show W.heap.size+1<w4.heap.size by omega) Tf)
 have hk46:∀ q,q<w4.heap.size→w6.heap[q]? = w4.heap[q]?:=fun q hq=>(Tf.block q hq).trans (HB45.out.block q hq)
 have hz6:w5.heap.size≤w6.heap.size:=Tf.size
 have HT6:=ak (show bH aI w6 T4 T oo mZ from HO.out.2.2.2.1.keep aA fun q hq=>hk46 q (HS.out.2.2.2.1 q hq).2)
 have H4B:=ak HS.out.2.2.2.1
 have hTl:T.length≤9223372036854775807:=by have h1:T.length≤mZ:=HT6.out.1;have h2:mZ≤maxLen:=HT6.out.2.1;unfold maxLen at h2;omega
 have HML:=ak (show ∀ k,(mid (nK n st) T k).length=T.length from fun k=>OP)
 have HK46:=ak hk46
 clear hk46
 go_upto_region 8 with fail
 rw [←hw6]
 clear hw6 Tf Z1 N5 n0 y4 g4 K5
 go_wp2
 go_loopw [9] (fun i wr=>∃ k:Nat,k≤T.length∧i=.int .i64 k∧(st≠3→k=0)∧Hid (bH aI wr T4 (mid (nK n st) T k) oo mZ)∧Hid (Off T4 w6 wr)) (fun i _=>T.length-(intOf i).toNat)
 case atStart=>exact ⟨0,dV _,rfl,fun _=>rfl,ak (by rw [mid_zero];exact HT6.out),ak (Off.refl _ _)⟩
 case round=>
  obtain ⟨k,hk,rfl,hk0,HTk,XQ⟩:=hrel
  have hzr:=XQ.out.size
  have HFAR:=ak (show ∀ q,q<w6.heap.size→¬Rg w3.heap.size w4.heap.size q→wr.heap[q]? = w6.heap[q]? from fun q h1 h2=>XQ.out.block q h1 fun h=>h2 (H4B.out q h))
  have KR:=ak (show aO wr w4.heap.size 44 #[.slice qF C.length cc',.slice pa' P.length pc',.slice nH Q.length nG,.int .i64 hf,.slice ra R.length rc,.slice oo T.length mZ,.slice qE U.length qD,.int .i64 now] from (HFAR.out _ (by omega) (fun h=>by have:=h.2;omega)).trans K6.out)
  have qk5:=KR.out.at_ 5 rfl
  by_cases hfin:st=3∧k<T.length
  rotate_left
  ·have HD9:=ak (show qB ((C,P,Q,hf),N,T,U,now) n st=((C,P,Q,hf),N,mid (nK n st) T k,U,now) from by
    unfold qB
    by_cases hst:st=3
    ·have e:nK n st=kL n:=by funext x;unfold nK;rw [if_pos hst]
     have ek:k=T.length:=by
      by_cases h:k<T.length
      ·exact absurd ⟨hst,h⟩ hfin
      ·omega
     rw [if_pos hst,ek,mid_end,e]
    ·rw [hk0 hst,if_neg hst,mid_zero])
   have hl9:=HML.out k
   have adF:(decide ((k:Int)<(T.length:Int))=false∧decide (k<T.length)=false)∨decide ((k:Int)<(T.length:Int))=true∧decide (k<T.length)=true∧(st==3)=false:=by
    by_cases hlt:k<T.length
    ·right
     exact ⟨eD (by omega),eD hlt,beq_eq_false_iff_ne.2 fun h=>hfin ⟨h,hlt⟩⟩
    ·left
     exact ⟨dS (by omega),dS hlt⟩
   clear hfin hk0
   rcases adF with ⟨hdl,hdn⟩ | ⟨hdl,hdn,hsb⟩
   all_goals
    have ZR:=ak (show aO wr (W.heap.size+1) 46 #[.slice none 0 0,.slice none 0 0,.slice none 0 0,.int .i64 0,.slice none 0 0,.slice none 0 0,.slice none 0 0,.int .i64 0,.int .i64 0,.int .i64 0] from (HFAR.out _ (by omega) (fun h=>by have:=h.1;omega)).trans Z6.out)
    have HBR:=ak (xC.out.trans ⟨XQ.out.os,XQ.out.tape,XQ.out.output,XQ.out.size,fun q hq=>XQ.out.block q (bV hq xC.out.size) (fun h=>by have:=(H4B.out q h).1;omega)⟩)
    obtain ⟨qK6_0,qK6_1,qK6_2,qK6_3,qK6_4,qK6_5,qK6_6,qK6_7⟩:=KR.out.gy rfl
    obtain ⟨q0,q1,q2,q3,q4,q5,q6,q7,q8,q9⟩:=ZR.out.ji rfl
    obtain ⟨f0,f1,f2,f3,f4,f5,f6,f7,f8,f9⟩:=ZR.out.Au
    have HST:=ak (iP wr (W.heap.size+1) (.slice qF C.length cc') (.slice pa' P.length pc') (.slice nH Q.length nG) (.int .i64 hf) (.slice ra R.length rc) (.slice oo T.length mZ) (.slice qE U.length qD) (.int .i64 now) (.int .i64 0) (.int .i64 0))
    have rM:=ak (iQ (w:=wr) (g:=W.heap.size+1) (v0:=.slice qF C.length cc') (v1:=.slice pa' P.length pc') (v2:=.slice nH Q.length nG) (v3:=.int .i64 hf) (v4:=.slice ra R.length rc) (v5:=.slice oo T.length mZ) (v6:=.slice qE U.length qD) (v7:=.int .i64 now) (v8:=.int .i64 0) (v9:=.int .i64 0) ZR.out)
    have uK:=ak (jA HBR.out HST.out (fun k hk=>by rw [hk];omega) HBR.out.size)
    obtain ⟨r0,r1,r2,r3,r4,r5,r6,r7,r8,r9⟩:=rM.out.ji rfl
    go_wp2
    refine qC (v:=.agg #[.slice qF C.length cc',.slice pa' P.length pc',.slice nH Q.length nG,.int .i64 hf,.slice ra R.length rc,.slice oo T.length mZ,.slice qE U.length qD,.int .i64 now,.int .i64 0,.int .i64 0]) (by simp [results,Tryz.results17,go_sem, *]) rfl ⟨[.slice qF C.length cc',.slice pa' P.length pc',.slice nH Q.length nG,.int .i64 hf,.slice ra R.length rc,.slice oo T.length mZ,.slice qE U.length qD,.int .i64 now,.int .i64 0,.int .i64 0],rfl,?_,uK.out⟩
    have hsz:=HST.out.size
    have hk:∀ q,W.heap.size+1<q→q<w4.heap.size→¬T4 q→((((((((((wr.setCell ⟨W.heap.size+1,0,none⟩ (.slice qF C.length cc')).setCell ⟨W.heap.size+1,1,none⟩ (.slice pa' P.length pc')).setCell ⟨W.heap.size+1,2,none⟩ (.slice nH Q.length nG)).setCell ⟨W.heap.size+1,3,none⟩ (.int .i64 hf)).setCell ⟨W.heap.size+1,4,none⟩ (.slice ra R.length rc)).setCell ⟨W.heap.size+1,5,none⟩ (.slice oo T.length mZ)).setCell ⟨W.heap.size+1,6,none⟩ (.slice qE U.length qD)).setCell ⟨W.heap.size+1,7,none⟩ (.int .i64 now)).setCell ⟨W.heap.size+1,8,none⟩ (.int .i64 0)).setCell ⟨W.heap.size+1,9,none⟩ (.int .i64 0)).heap[q]? = w4.heap[q]?:=fun q h1 h2 h3=>(HST.out.block q (by omega) (by show ¬q=W.heap.size+1;omega)).trans ((XQ.out.block q (by omega) h3).trans (HK46.out q h2))
    rw [HFC.out,HD9.out]
    obtain ⟨s0,s1,s2,s4,s5⟩:=HS.out
    obtain ⟨d01,d02,d04,d05,MF,d14,d15,d24,d25,d45⟩:=HDJ.out
    obtain ⟨o0,o1,o2,o4,o5⟩:=HO.out
    have hn:=HSN.out
    have P8:∀ k,Rg w3.heap.size w4.heap.size k→¬SN k:=fun k h1 h2=>by have h3:=h1.1;have h4:=(hn k h2).2;omega
    have up:∀ k,Rg w3.heap.size w4.heap.size k→Rg W.heap.size ((((((((((wr.setCell ⟨W.heap.size+1,0,none⟩ (.slice qF C.length cc')).setCell ⟨W.heap.size+1,1,none⟩ (.slice pa' P.length pc')).setCell ⟨W.heap.size+1,2,none⟩ (.slice nH Q.length nG)).setCell ⟨W.heap.size+1,3,none⟩ (.int .i64 hf)).setCell ⟨W.heap.size+1,4,none⟩ (.slice ra R.length rc)).setCell ⟨W.heap.size+1,5,none⟩ (.slice oo T.length mZ)).setCell ⟨W.heap.size+1,6,none⟩ (.slice qE U.length qD)).setCell ⟨W.heap.size+1,7,none⟩ (.int .i64 now)).setCell ⟨W.heap.size+1,8,none⟩ (.int .i64 0)).setCell ⟨W.heap.size+1,9,none⟩ (.int .i64 0)).heap.size k:=fun k h1=>⟨by have:=h1.1;omega,by have:=h1.2;omega⟩
    have hkk:∀ k,Rg w3.heap.size w4.heap.size k→¬T4 k→((((((((((wr.setCell ⟨W.heap.size+1,0,none⟩ (.slice qF C.length cc')).setCell ⟨W.heap.size+1,1,none⟩ (.slice pa' P.length pc')).setCell ⟨W.heap.size+1,2,none⟩ (.slice nH Q.length nG)).setCell ⟨W.heap.size+1,3,none⟩ (.int .i64 hf)).setCell ⟨W.heap.size+1,4,none⟩ (.slice ra R.length rc)).setCell ⟨W.heap.size+1,5,none⟩ (.slice oo T.length mZ)).setCell ⟨W.heap.size+1,6,none⟩ (.slice qE U.length qD)).setCell ⟨W.heap.size+1,7,none⟩ (.int .i64 now)).setCell ⟨W.heap.size+1,8,none⟩ (.int .i64 0)).setCell ⟨W.heap.size+1,9,none⟩ (.int .i64 0)).heap[k]? = w4.heap[k]?:=fun k h1 h2=>hk k (by have:=h1.1;omega) h1.2 h2
    have Vh:=KA (id:=0) (code:=0) (cs:=[.slice qF C.length cc',.slice pa' P.length pc',.slice nH Q.length nG,.int .i64 hf,.slice ra R.length rc,.slice oo (mid (nK n st) T k).length mZ,.slice qE U.length qD,.int .i64 now]) (yh (x3:=hf) (x7:=now) (T0:=T0) (T1:=T1) (T2:=T2) (T3:=SN) (T4:=T4) (T5:=T5) (fun k h=>up k (s0 k h)) (fun k h=>up k (s1 k h)) (fun k h=>up k (s2 k h)) (fun k h=>⟨by have:=(hn k h).1;omega,by have:=(hn k h).2;omega⟩) (fun k h=>up k (s4 k h)) (fun k h=>up k (s5 k h)) d01 d02 (fun k h=>P8 k (s0 k h)) d04 d05 MF (fun k h=>P8 k (s1 k h)) d14 d15 (fun k h=>P8 k (s2 k h)) d24 d25 (fun k h h'=>P8 k (s4 k h') h) (fun k h h'=>P8 k (s5 k h') h) d45
     (o0.keep (aZ au) fun q h=>hkk q (s0 q h) (d04 q h)) (o1.keep aG fun q h=>hkk q (s1 q h) (d14 q h)) (o2.keep aC fun q h=>hkk q (s2 q h) (d24 q h)) (rO.out.keep aK fun q h=>hk q (by have:=(hn q h).1;omega) (by have:=(hn q h).2;omega) (fun h9=>P8 q (s4 q h9) h)) (HTk.out.keep aA fun q h=>HST.out.block q (by have:=(s4 q h).2;omega) (by have:=(s4 q h).1;show ¬q=W.heap.size+1;omega)) (o5.keep aU fun q h=>hkk q (s5 q h) (fun h9=>d45 q h9 h)))
    rw [hl9] at Vh
    exact Vh
  obtain ⟨hst,hlt⟩:=hfin
  have hsb:(st==3)=true:=by simp [hst]
  have vH:=ak hst
  clear hst
  have hdn:decide (k<T.length)=true:=eD hlt
  have hdl:decide ((k:Int)<(T.length:Int))=true:=eD (by omega)
  obtain ⟨⟨⟨x0,x1⟩,x2,x3,x4,x5,x6,⟨x7,x8⟩,x9,x10,aS,aV,M⟩,hx⟩:=aM hlt
  have HX:=ak hx
  have HMX:=ak (KC (f:=nK n st) hx)
  have hSl:∀ q,T4 q→q<wr.heap.size:=fun q hq=>by have:=(H4B.out q hq).2;omega
  obtain ⟨gt,Sf,hge,hrow⟩:=HTk.out.row (by rw [HML.out];omega)
  subst hge
  obtain ⟨us,hu,hr⟩:=hrow.el k _ HMX.out
  obtain ⟨ba,bc,T5',rfl,hT5,Sm,fH⟩:=nP hr
  have XG:T4 gt:=hrow.own
  have hgl:gt<wr.heap.size:=hSl gt XG
  obtain ⟨e0,e1,e2,e3,e4,e5,e6,e7,e8,e9,e10,e11,e12,e13⟩:=kY (a:=k*14) hu rfl
  have Cz:=ak (show aJ I wr wr.heap.size M ba bc from Sm.rd cK fun q hq=>hSl q (hrow.sub k q (hT5 q hq)).1)
  have hMl:M.length≤1048576:=by have h7:=(XO.out.2.2.2.2.1.2 k _ HX.out).1;exact IX h7
  have hsf:∀ j,wr.frozen? ⟨gt,j,none⟩=false:=hrow.soft
  have hi0:(0:Int)≤(k:Int):=eu _
  have hi1:(k:Int)<(T.length:Int):=by omega
  obtain ⟨w7,hw7⟩:∃ v,v=wr.alloc (.cells #[.int .i64 x0,.int .i64 x1,.int .i64 x2,.string x3,.int .i64 x4,.int .i64 x5,.int .i64 x6,.int .i64 x7,.int .i64 x8,.int .i64 x9,.int .i64 x10,.int .i64 aS,.int .i64 aV,.slice ba M.length bc] 72):=⟨_,rfl⟩
  have Cw:Below wr.heap.size wr w7:=by rw [hw7];exact (aW _ _).alloc (bK _) _
  have X7:=ak (show aO w7 wr.heap.size 72 #[.int .i64 x0,.int .i64 x1,.int .i64 x2,.string x3,.int .i64 x4,.int .i64 x5,.int .i64 x6,.int .i64 x7,.int .i64 x8,.int .i64 x9,.int .i64 x10,.int .i64 aS,.int .i64 aV,.slice ba M.length bc] from by rw [hw7];exact aO.new _ _ _)
  have HM7:=ak (aD cK Cz.out Cw)
  have HT7:=ak (HTk.out.keep aA fun q hq=>Cw.block q (hSl q hq))
  have HO7:=ak (XQ.out.trans ⟨Cw.os,Cw.tape,Cw.output,Cw.size,fun q hq _=>Cw.block q hq⟩)
  have K7:=ak (KR.out.call Cw)
  have hz7:=Cw.size
  have f11:=(Cw.cell (p:=⟨gt,k*14+11,none⟩) hgl).trans e11
  have f12:=(Cw.cell (p:=⟨gt,k*14+12,none⟩) hgl).trans e12
  have f13:=(Cw.cell (p:=⟨gt,k*14+13,none⟩) hgl).trans e13
  have s7:∀ j,w7.frozen? ⟨gt,j,none⟩=false:=fun j=>(Cw.frozen (p:=⟨gt,j,none⟩) hgl).trans (hsf j)
  have HE:=ak (show (w7.cell? ⟨gt,k*14+11,none⟩=some (.int .i64 aS)∧w7.cell? ⟨gt,k*14+12,none⟩=some (.int .i64 aV)∧w7.cell? ⟨gt,k*14+13,none⟩=some (.slice ba M.length bc))∧∀ j,w7.frozen? ⟨gt,j,none⟩=false from ⟨⟨f11,f12,f13⟩,s7⟩)
  clear hx hu hr hrow hT5 Sm fH Cw f11 f12 f13 s7 hsf
  go_upto_region 12 with fail
  rw [←hw7]
  clear hw7 e0 e1 e2 e3 e4 e5 e6 e7 e8 e9 e10 e11 e12 e13 qk5
  have O8:=X7.out.at_ 11 rfl
  have JX:=X7.out.at_ 13 rfl
  by_cases hrun:aS=2
  rotate_left
  ·have hb:(aS==2)=false:=by simp [hrun]
   have HM:=ak (wR (f:=nK n st) HX.out (by unfold nK;rw [if_pos vH.out];exact Ef hrun))
   go_wp2
   go_roundw
   case rel=>exact ⟨k+1,by omega,by go_num,fun h=>absurd vH.out h,ak (by rw [HM.out];exact HT7.out),HO7⟩
   case measure=>simp [intOf];omega
  have hb:(aS==2)=true:=by simp [hrun]
  have EI:=ak hrun
  clear hrun
  go_wp2_with fail
  refine (Z8 (n:=n) hMl HM7.out).mono ?_
  rintro e w8 ⟨b,rfl,XH,rfl⟩
  cases b with
  | false=>
   have HM:=ak (wR (f:=nK n st) HX.out (by unfold nK;rw [if_pos vH.out];exact Eh (fun h=>by have:=XH.2 h;cases this)))
   clear XH
   go_wp2
   go_roundw
   case rel=>exact ⟨k+1,by omega,by go_num,fun h=>absurd vH.out h,ak (by rw [HM.out];exact HT7.out),HO7⟩
   case measure=>simp [intOf];omega
  | true=>
   have HM:=ak ((EW (f:=nK n st) HX.out).symm.trans (congrArg _ (show nK n st ((x0,x1),x2,x3,x4,x5,x6,(x7,x8),x9,x10,aS,aV,M)=beT 1 ((x0,x1),x2,x3,x4,x5,x6,(x7,x8),x9,x10,aS,aV,M) from by unfold nK;rw [if_pos vH.out];exact Ee EI.out (XH.1 rfl))))
   have hto:=Bw (st:=1) HT7.out (fun q hq=>bV (hSl q hq) hz7) HMX.out
   obtain ⟨hT8,XE,hs8,_⟩:=hto
   have HT8:=ak hT8
   have HO8:=ak (HO7.out.trans ⟨XE.os,XE.tape,XE.output,XE.size,fun q hq hn=>XE.block q hq fun e=>hn (by rw [e];exact XG)⟩)
   obtain ⟨⟨f11,f12,f13⟩,s7⟩:=HE.out
   have s11:=s7 (k*14+11)
   have s12:=s7 (k*14+12)
   have s13:=s7 (k*14+13)
   have y5:=K7.out.at_ 5 rfl
   clear XH hT8 XE hs8 s7 O8 JX
   go_wp2
   go_roundw
   case rel=>exact ⟨k+1,by omega,by go_num,fun h=>absurd vH.out h,ak (by rw [HM.out];exact HT8.out),HO8⟩
   case measure=>simp [intOf];omega
end
section
open Go.ChangeShapes Go.WideShapes Go.ChangeAt Go.RowKit Go.Joins Go.Deep bN bO
theorem aai:Tryz.prog.cellsOf 27=1:=by kernel_rfl
theorem ab8:Tryz.prog.cellsOf 31=8:=by kernel_rfl
theorem VT:zQ bW 31:=fun enc W fuel cs y h=>by
 obtain ⟨xs,n,_,_,hl,hlen,hf⟩:=DataW.trod_struct Tryz.underlying31 h
 rw [ab8] at hl
 match cs,hl with
 | [c0,c1,c2,c3,c4,c5,c6,c7],_=>
  have e2:xs.length=5:=hlen
  match xs,e2 with
  | [y0,y1,y2,y3,y4],_=>
   have g0:=qJ hf 0 26 0 4 rfl IJ
   have g1:=qJ hf 1 27 4 1 rfl aai
   have g2:=qJ hf 2 28 5 1 rfl aaf
   have g3:=qJ hf 3 29 6 1 rfl ab9
   have g4:=qJ hf 4 2 7 1 rfl fO
   obtain ⟨d0,h0⟩:=Lg enc W n [c0,c1,c2,c3] y0 g0
   obtain ⟨d1,h1⟩:=Q6 enc W n [c4] y1 g1
   obtain ⟨d2,h2⟩:=QY enc W n [c5] y2 g2
   obtain ⟨d3,h3⟩:=VU enc W n [c6] y3 g3
   obtain ⟨d4,h4⟩:=fM enc W n [c7] y4 g4
   exact ⟨(d0,d1,d2,d3,d4),⟨[c0,c1,c2,c3],[c4,c5,c6,c7],rfl,h0,⟨[c4],[c5,c6,c7],rfl,h1,⟨[c5],[c6,c7],rfl,h2,⟨[c6],[c7],rfl,h3,h4⟩⟩⟩⟩⟩
theorem Q8 {H:Type}{enc:TypeId×Value→H}{W:World}{base:Nat}{v:Value}{d:DataW H}{p:List MemPlace}(o:Value.okWide Tryz.prog W .any base 31 v)(h:DataW.Trod enc Tryz.prog W 0 (fun _=>true) true 31 v d p) :
 ∃ (L0:List (List (ay))) (L1:List (bA)) (L2:List (aX)) (x3:Int) (L3:List (aP)) (L4:List (aF)) (L5:List (bI)) (x7:Int) (a0:Option Addr) (c0:Nat) (a1:Option Addr) (c1:Nat) (a2:Option Addr) (c2:Nat) (a3:Option Addr) (c3:Nat) (a4:Option Addr) (c4:Nat) (a5:Option Addr) (c5:Nat),v=.agg #[.slice a0 L0.length c0,.slice a1 L1.length c1,.slice a2 L2.length c2,.int .i64 x3,.slice a3 L3.length c3,.slice a4 L4.length c4,.slice a5 L5.length c5,.int .i64 x7]∧bW.rd W W.heap.size ((L0,L1,L2,x3),L3,L4,L5,x7) [.slice a0 L0.length c0,.slice a1 L1.length c1,.slice a2 L2.length c2,.int .i64 x3,.slice a3 L3.length c3,.slice a4 L4.length c4,.slice a5 L5.length c5,.int .i64 x7]:=by
 obtain ⟨⟨⟨L0,L1,L2,x3⟩,L3,L4,L5,x7⟩,cs,rfl,hr⟩:=ZQ VT Tryz.underlying31 o h
 obtain ⟨a0,c0,a1,c1,a2,c2,a3,c3,a4,c4,a5,c5,rfl,h0⟩:=VO hr
 exact ⟨L0,L1,L2,x3,L3,L4,L5,x7,a0,c0,a1,c1,a2,c2,a3,c3,a4,c4,a5,c5,rfl,h0⟩
end
section
open Go.RowKit bN bO bJ bQ
theorem OY:∀ L:List ay,bD av.cm L=2*L.length
 | []=>rfl
 | x::xs=>by
  simp only [bD,OY xs,List.length_cons]
  have:av.cm x=2:=rfl
  omega
theorem NP:∀ L:List ay,bD av.sz L=0
 | []=>rfl
 | x::xs=>by
  simp only [bD,NP xs]
  rfl
theorem IE:∀ C:List (List ay),bD (Sl av).cm C≤2*(Sl (Sl av)).sz C
 | []=>dV _
 | x::xs=>by
  have h:=IE xs
  have e:(Sl (Sl av)).sz (x::xs)=(x::xs).length+((Sl av).sz x+bD (Sl av).sz xs):=rfl
  have e2:(Sl (Sl av)).sz xs=xs.length+bD (Sl av).sz xs:=rfl
  have e3:(Sl av).sz x=x.length+bD av.sz x:=rfl
  have e4:(Sl av).cm x=bD av.cm x:=rfl
  rw [e,e3,NP]
  rw [e2] at h
  simp only [bD,List.length_cons]
  rw [e4,OY]
  omega
theorem IB:∀ L:List bA,bD aT.cm L=5*L.length
 | []=>rfl
 | x::xs=>by
  simp only [bD,IB xs,List.length_cons]
  have:aT.cm x=5:=rfl
  omega
theorem El:∀ L:List aX,bD aN.cm L=3*L.length
 | []=>rfl
 | x::xs=>by
  simp only [bD,El xs,List.length_cons]
  have:aN.cm x=3:=rfl
  omega
theorem L9 {d:Bv}(h:cu.sz d≤1048576):cu.cv d≤8388608:=by
 obtain ⟨C,P,Q,hf⟩:=d
 rw [pX,qh,nZ] at h
 rw [Cb,IB,El]
 have:=IE C
 omega
theorem Bt:∀ L:List dJ,bD bE.cm L=2*L.length
 | []=>rfl
 | x::xs=>by
  simp only [bD,Bt xs,List.length_cons]
  have:bE.cm x=2:=rfl
  omega
theorem IC:∀ L:List aP,bD aL.cm L≤2*(Sl aL).sz L
 | []=>dV _
 | x::xs=>by
  have h:=IC xs
  have e:(Sl aL).sz (x::xs)=(x::xs).length+(aL.sz x+bD aL.sz xs):=rfl
  have e2:(Sl aL).sz xs=xs.length+bD aL.sz xs:=rfl
  obtain ⟨s,b⟩:=x
  have e3:aL.sz (s,b)=b.length:=by rw [G6,BU]
  have e4:aL.cm (s,b)=1+bD bE.cm b:=rfl
  rw [e,e3]
  rw [e2] at h
  simp only [bD,List.length_cons]
  rw [e4,Bt]
  omega
theorem RG {L:List aP}(h:(Sl aL).sz L≤1048576):(Sl aL).cv L≤8388608:=by
 have:=IC L
 show bD aL.cm L≤_
 omega
theorem RN {L:List aP}{n:Int}{ok:Bool}{ng:aP→Int×aP}{d:mX}(hz:(Sl aL).sz L≤1048576)(hc:∀ x,PN x→(ng x).2.2.length≤5)(hd:lg L n ok ng=d):eX.cv d≤8388608:=by
 obtain ⟨R,c⟩:=d
 rw [xg]
 have key:∀ K:List aP,(∀ x∈K,x.2.length≤5)→bD aL.cm K≤11*K.length:=by
  intro K hK
  induction K with
  | nil=>exact dV _
  | cons y ys ih=>
   have h1:=ih fun x hx=>hK x (by simp [hx])
   have h2:=hK y (by simp)
   obtain ⟨s,b⟩:=y
   have h3:aL.cm (s,b)=1+bD bE.cm b:=rfl
   have h4:b.length≤5:=h2
   simp only [bD,List.length_cons]
   rw [h3,Bt]
   omega
 have hR:R = []∨(R.length≤6∧∀ x∈R,x.2.length≤5):=by
  unfold lg at hd
  split at hd
  ·exact .inl (congrArg Prod.fst hd).symm
  ·split at hd
   ·exact .inl (congrArg Prod.fst hd).symm
   ·rename_i h1 h2
    split at hd
    ·exact .inl (congrArg Prod.fst hd).symm
    ·split at hd
     ·exact .inl (congrArg Prod.fst hd).symm
     ·rename_i x hx
      split at hd
      ·have hN:qM L:=gG.1 (by cases hq:iU L with
        | true=>rfl
        | false=>rw [hq] at h2;exact absurd rfl h2)
       have e:L.set n.toNat (ng x).2=R:=congrArg Prod.fst hd
       refine .inr ⟨by rw [←e,List.length_set];exact hN.1.2,fun y hy=>?_⟩
       rw [←e] at hy
       rcases List.mem_or_eq_of_mem_set hy with h | h
       ·have:=(hN.2 y h).2.1;omega
       ·rw [h];exact hc x (jR hN hx)
      ·exact .inl (congrArg Prod.fst hd).symm
 rcases hR with rfl | ⟨h1,h2⟩
 ·exact dV _
 ·have:=key R h2
  omega
theorem QL {L:List aP}{n st:Int}{d:mX}(hz:(Sl aL).sz L≤1048576)(hd:lg L n (dD st 1 3) (lY st)=d):eX.cv d≤8388608:=
 RN hz (fun x hx=>by have:=hx.2.1;unfold lY;split <;> simp <;> omega) hd
end
section
open Go.RowKit bN bO bJ bQ zI
theorem OX:∀ L:List bI,bD bC.cm L=4*L.length
 | []=>rfl
 | x::xs=>by
  simp only [bD,OX xs,List.length_cons]
  have:bC.cm x=4:=rfl
  omega
theorem Bq {C:List (List ay)}{P:List bA}{Q:List aX}{hf:Int}{N:List aP}{T:List aF}{U:List bI}{now:Int}(h:bW.sz ((C,P,Q,hf),N,T,U,now)≤1048576) :
 bD (Sl av).cm C+bD aT.cm P+bD aN.cm Q≤8388608∧(Sl aL).sz N≤1048576∧bD aI.cm T≤33554432∧bD bC.cm U≤4194304:=by
 rw [wM] at h
 have h1:=L9 (d:=(C,P,Q,hf)) (by omega)
 rw [Cb] at h1
 have h2:(Sl aI).cv T≤33554432:=RF (by omega)
 have h3:(Sl bC).sz U=U.length+bD bC.sz U:=rfl
 exact ⟨h1,by omega,h2,by rw [OX];omega⟩
theorem WQ {d:dF}(h:bW.sz d≤1048576):bW.cv d≤67108864:=by
 obtain ⟨⟨C,P,Q,hf⟩,N,T,U,now⟩:=d
 obtain ⟨h1,h2,h3,h4⟩:=Bq h
 have h5:bD aL.cm N≤8388608:=RG h2
 rw [Iu]
 omega
theorem Mk {d:dF}{f r:dU}(hf:vR d=true→cB.cv f≤67108864)(hd:xL d f=r):cB.cv r≤67108864:=by
 subst hd
 cases hc:vR d with
 | true=>rw [Bu hc];exact hf hc
 | false=>
  rw [EZ hc]
  show 0+_≤_
  decide
theorem WH {d:dF}{cs:List Value}{n st:Int}{W:World}(hsz:bW.sz d≤1048576)(h:bW.rd W W.heap.size d cs):Calls Tryz.prog 17 #[.agg cs.toArray,.int .i64 n,.int .i64 st] W (kT cB (xL d (pq d n st)) W):=by
 obtain ⟨⟨C,P,Q,hf⟩,N,T,U,now⟩:=d
 obtain ⟨a0,c0,a1,c1,a2,c2,a3,c3,a4,c4,a5,c5,rfl,k0,k1,k2,k3,k4,k5⟩:=pR h
 rw [wM,pX,qh,nZ] at hsz
 exact Dc (by omega) (by omega) k0 k1 k2 k3 k4 k5
theorem Ir {d:dF}{cs:List Value}{n st:Int}{W:World}{a:Nat→Addr}(hD:oN 7 W a)(h0:-9223372036854775808≤n)(h1:n≤9223372036854775807)(hsz:bW.sz d≤1048576)(h:bW.rd W W.heap.size d cs):Calls Tryz.prog 18 #[.agg cs.toArray,.int .i64 n,.int .i64 st] W (kT cB (xL d (pq d n st)) W):=by
 obtain ⟨⟨C,P,Q,hf⟩,N,T,U,now⟩:=d
 obtain ⟨a0,c0,a1,c1,a2,c2,a3,c3,a4,c4,a5,c5,rfl,k0,k1,k2,k3,k4,k5⟩:=pR h
 rw [wM,pX,qh,nZ] at hsz
 exact Df hD h0 h1 (by omega) (by omega) k0 k1 k2 k3 k4 k5
theorem U7 {α:Type}{f g:α→Nat}{h:α→α}(hh:∀ x,f (h x)≤f x):∀ L:List α,bD f (L.map h)≤bD f L
 | []=>bK _
 | x::xs=>by
  have h1:=U7 (g:=g) hh xs
  have h2:=hh x
  simp only [List.map_cons,bD]
  omega
theorem ZY (n:Int)(x:aF):aI.cm (kL n x)≤aI.cm x:=by
 unfold kL
 split
 ·obtain ⟨⟨x0,x1⟩,x2,x3,x4,x5,x6,⟨x7,x8⟩,x9,x10,aS,aV,M⟩:=x
  rw [EY,EY]
  show 13+([]:List Int).length≤13+M.length
  simp
 ·exact bK _
theorem Jd {d:dF}{L:List aP}{n st c:Int}(hsz:bW.sz d≤1048576)(hL:bD aL.cm L≤8388608):cB.cv (yG (qB d n st) L c)≤67108864:=by
 obtain ⟨⟨C,P,Q,hf⟩,N,T,U,now⟩:=d
 obtain ⟨h1,h2,h3,h4⟩:=Bq hsz
 have h5:bD aI.cm (qB ((C,P,Q,hf),N,T,U,now) n st).2.2.1≤bD aI.cm T:=by
  unfold qB
  show bD aI.cm (if st=3 then T.map (kL n) else T)≤_
  split
  ·exact U7 (g:=fun _=>0) (ZY n) T
  ·exact bK _
 obtain ⟨T',hT⟩:∃ T',(qB ((C,P,Q,hf),N,T,U,now) n st).2.2.1=T':=⟨_,rfl⟩
 rw [hT] at h5
 have he:qB ((C,P,Q,hf),N,T,U,now) n st=((C,P,Q,hf),N,T',U,now):=by rw [←hT];rfl
 rw [he]
 unfold yG
 split
 ·show cB.cv (((C,P,Q,hf),L,T',U,now),0,0)≤_
  rw [rE]
  omega
 ·show cB.cv ((([],[],[],0),[],[],[],0),0,c)≤_
  rw [rE]
  decide
theorem Qn {d:dF}{n st:Int}{r:dU}(hsz:bW.sz d≤1048576)(hd:xL d (pq d n st)=r):cB.cv r≤67108864:=
 Mk (fun _=>Jd hsz (by
  have h2:(Sl aL).sz d.2.1≤1048576:=by
   obtain ⟨⟨C,P,Q,hf⟩,N,T,U,now⟩:=d
   exact (Bq hsz).2.1
  obtain ⟨⟨R,c⟩,he⟩:∃ x:mX,lg d.2.1 n (dD st 1 3) (lY st)=x:=⟨_,rfl⟩
  rw [he]
  have h3:=QL h2 he
  rw [xg] at h3
  exact h3)) hd
theorem Ww {MO:List (List (ay))}{MN:List (bA)}{ML:List (aX)}{MH:Int}{MK:List (aP)}{MJ:List (aF)}{MI:List (bI)}{MG:Int}{Ya0:Option Addr}{Yc0:Nat}{Ya1:Option Addr}{Yc1:Nat}{Ya2:Option Addr}{Yc2:Nat}{Ya3:Option Addr}{Yc3:Nat}{Ya4:Option Addr}{Yc4:Nat}{Ya5:Option Addr}{Yc5:Nat}{M:Int}{K:Int}{W:World}(hY:bW.rd W W.heap.size ((MO,MN,ML,MH),MK,MJ,MI,MG) [.slice Ya0 MO.length Yc0,.slice Ya1 MN.length Yc1,.slice Ya2 ML.length Yc2,.int .i64 MH,.slice Ya3 MK.length Yc3,.slice Ya4 MJ.length Yc4,.slice Ya5 MI.length Yc5,.int .i64 MG]){ad:Nat→Addr}(aaM:oN 7 W ad)(hM0:-9223372036854775808≤M)(hM1:M≤9223372036854775807) :
 Calls Tryz.prog 4 #[.agg #[.slice Ya0 MO.length Yc0,.slice Ya1 MN.length Yc1,.slice Ya2 ML.length Yc2,.int .i64 MH,.slice Ya3 MK.length Yc3,.slice Ya4 MJ.length Yc4,.slice Ya5 MI.length Yc5,.int .i64 MG],.int .i64 M,.int .i64 K] W fun e w'=>e=.returned (.bool true)∧Below W.heap.size W w':=by
 have abk:=ak aaM
 clear aaM
 have HY:=ak hY
 have HY0:=ak hY
 clear hY
 have iE:Below (W).heap.size (W) (W.alloc (.cells #[.slice Ya0 MO.length Yc0,.slice Ya1 MN.length Yc1,.slice Ya2 ML.length Yc2,.int .i64 MH,.slice Ya3 MK.length Yc3,.slice Ya4 MJ.length Yc4,.slice Ya5 MI.length Yc5,.int .i64 MG] 31)):=(aW _ _).alloc (bK _) _
 have Qk:=ak (zY bS HY.out iE)
 have HB1:=ak (show Below W.heap.size W (W.alloc (.cells #[.slice Ya0 MO.length Yc0,.slice Ya1 MN.length Yc1,.slice Ya2 ML.length Yc2,.int .i64 MH,.slice Ya3 MK.length Yc3,.slice Ya4 MJ.length Yc4,.slice Ya5 MI.length Yc5,.int .i64 MG] 31)) from iE)
 have HZ1:=ak ((iE).size)
 clear HY
 have PY_1:=aO.new (W) 31 #[.slice Ya0 MO.length Yc0,.slice Ya1 MN.length Yc1,.slice Ya2 ML.length Yc2,.int .i64 MH,.slice Ya3 MK.length Yc3,.slice Ya4 MJ.length Yc4,.slice Ya5 MI.length Yc5,.int .i64 MG]
 have Dy:=ak PY_1
 clear PY_1 iE
 by_cases hsz:bW.sz ((MO,MN,ML,MH),MK,MJ,MI,MG)≤1048576
 rotate_left
 ·skip
  go_enter Tryz.func4,Tryz.ntmps4
  obtain ⟨tH,tF,tC,tu,tq,sZ,sW,sV⟩:=Dy.out.gy rfl
  go_wp2_with fail
  refine (Iq (by omega) (by omega) Qk.out).mono ?_
  intro e w2 h
  obtain ⟨rfl,hb⟩:=gD h
  rw [dI (by omega)]
  clear tH tF tC tu tq sZ sW sV
  have Tk:=ak (Dy.out.call hb)
  have Zk:=ak (zY bS Qk.out hb)
  have HB2:=ak (HB1.out.trans ((hb).mono HB1.out.size))
  have HZ2:=ak ((hb).size)
  clear Dy Qk HB1
  clear h hb
  go_wp2
  go_ret
  exact ⟨rfl,HB2.out⟩
 have Gq:=ak hsz
 have HSAY:=ak (WQ hsz)
 obtain ⟨m,hm⟩:∃ m:Nat,bW.sz ((MO,MN,ML,MH),MK,MJ,MI,MG)=m:=⟨_,rfl⟩
 have HM:=ak hm
 rw [hm] at hsz
 clear hm
 have hlt1:decide ((1048576:Int)-(m:Int)<0)=false:=dS (by omega)
 obtain ⟨⟨⟨⟨R9,R8,R7,R3⟩,R6,R5,R4,RZ⟩,RY,RX⟩,hD⟩:∃ d,xL ((MO,MN,ML,MH),MK,MJ,MI,MG) (pq ((MO,MN,ML,MH),MK,MJ,MI,MG) M K)=d:=⟨_,rfl⟩
 have Xy:=ak hD
 have HSM:=ak (Qn Gq.out hD)
 clear hD
 go_enter Tryz.func4,Tryz.ntmps4
 obtain ⟨tH,tF,tC,tu,tq,sZ,sW,sV⟩:=Dy.out.gy rfl
 go_wp2_with fail
 refine (Iq (by omega) (by omega) Qk.out).mono ?_
 intro e w2 h
 obtain ⟨rfl,hb⟩:=gD h
 rw [HM.out,dL (by omega)]
 clear tH tF tC tu tq sZ sW sV
 have Tk:=ak (Dy.out.call hb)
 have Zk:=ak (zY bS Qk.out hb)
 have HB2:=ak (HB1.out.trans ((hb).mono HB1.out.size))
 have HZ2:=ak ((hb).size)
 clear Dy Qk HB1
 clear hsz
 clear h hb
 have Pn:=ak (Tk.out.lt)
 obtain ⟨tH,tF,tC,tu,tq,sZ,sW,sV⟩:=Tk.out.gy rfl
 go_wp2_with fail
 refine (wS Gq.out Zk.out).mono ?_
 intro e w3 h
 obtain ⟨us,rfl,hu,hb⟩:=bY h
 obtain ⟨aY03,cY03,aY13,cY13,aY23,cY23,aY33,cY33,aY43,cY43,aY53,cY53,rfl,hu⟩:=wN hu
 clear tH tF tC tu tq sZ sW sV
 have PY_3:=ak (Tk.out.call hb)
 have HY_3:=ak (zY bS Zk.out hb)
 have HB3:=ak (HB2.out.trans ((hb).mono HB2.out.size))
 have HZ3:=ak ((hb).size)
 clear Tk Zk HB2
 have NY_3:=ak (pV hu)
 clear hu
 clear h hb
 go_wp2_with fail
 refine (WH Gq.out (NY_3.out.rd bS)).mono ?_
 intro e w4 h
 rw [Xy.out] at h
 obtain ⟨us,rfl,hu,hb⟩:=bY h
 obtain ⟨YE,Yk,YA,Yh,Yx,Ye,Yu,Yb,Yq,X5,Yn,XW,rfl,hu⟩:=nX hu
 have PY_4:=ak (PY_3.out.call hb)
 have HY_4:=ak (zY bS HY_3.out hb)
 have NY_4:=ak (NY_3.out.mv bS hb)
 have jL:=ak (HB3.out.trans ((hb).mono HB3.out.size))
 have vI:=ak ((hb).size)
 clear PY_3 HY_3 NY_3 HB3
 have Yw_4:=ak (pV hu)
 have HSw:=ak (fun k (hk:Rg w3.heap.size w4.heap.size k)=>hk)
 clear hu
 clear h hb
 clear NY_4
 have iE:Below (w4).heap.size (w4) (w4.alloc (.cells #[.slice YE R9.length Yk,.slice YA R8.length Yh,.slice Yx R7.length Ye,.int .i64 R3,.slice Yu R6.length Yb,.slice Yq R5.length X5,.slice Yn R4.length XW,.int .i64 RZ,.int .i64 RY,.int .i64 RX] 46)):=(aW _ _).alloc (bK _) _
 have Zg:=ak (PY_4.out.call iE)
 have Zh:=ak (zY bS HY_4.out iE)
 have Yw_5:=ak (Yw_4.out.mv aY iE)
 have lX:=ak (jL.out.trans ((iE).mono jL.out.size))
 have MS:=ak ((iE).size)
 clear PY_4 HY_4 Yw_4 jL
 have Bw_5:=aO.new (w4) 46 #[.slice YE R9.length Yk,.slice YA R8.length Yh,.slice Yx R7.length Ye,.int .i64 R3,.slice Yu R6.length Yb,.slice Yq R5.length X5,.slice Yn R4.length XW,.int .i64 RZ,.int .i64 RY,.int .i64 RX]
 have UO:=ak Bw_5
 clear Bw_5 iE
 have MR:=ak ((show (w4.alloc (.cells #[.slice YE R9.length Yk,.slice YA R8.length Yh,.slice Yx R7.length Ye,.int .i64 R3,.slice Yu R6.length Yb,.slice Yq R5.length X5,.slice Yn R4.length XW,.int .i64 RZ,.int .i64 RY,.int .i64 RX] 46)).heap.size=w4.heap.size+1 by simp))
 obtain ⟨wz5,Ai⟩:∃ w,w=w4.alloc (.cells #[.slice YE R9.length Yk,.slice YA R8.length Yh,.slice Yx R7.length Ye,.int .i64 R3,.slice Yu R6.length Yb,.slice Yq R5.length X5,.slice Yn R4.length XW,.int .i64 RZ,.int .i64 RY,.int .i64 RX] 46):=⟨_,rfl⟩
 rw [←Ai] at Zg UO Zh Yw_5 lX MS MR
 obtain ⟨tH,tF,tC,tu,tq,sZ,sW,sV⟩:=Zg.out.gy rfl
 have Oa:=tH
 rw [Ai] at Oa
 have N9:=tF
 rw [Ai] at N9
 have N8:=tC
 rw [Ai] at N8
 have N7:=tu
 rw [Ai] at N7
 have NY:=tq
 rw [Ai] at NY
 have NW:=sZ
 rw [Ai] at NW
 have NV:=sW
 rw [Ai] at NV
 have NU:=sV
 rw [Ai] at NU
 go_wp2_with fail
 rw [←Ai]
 clear Ai
 refine (wS Gq.out Zh.out).mono ?_
 intro e w6 h
 obtain ⟨us,rfl,hu,hb⟩:=bY h
 obtain ⟨Zc,Y6,Zb,YZ,Za,YX,Y9,YW,Y8,YV,Y7,YU,rfl,hu⟩:=wN hu
 clear tH tF tC tu tq sZ sW sV Oa N9 N8 N7 NY NW NV NU
 have PY_6:=ak (Zg.out.call hb)
 have Bw_6:=ak (UO.out.call hb)
 have HY_6:=ak (zY bS Zh.out hb)
 have Yw_6:=ak (Yw_5.out.mv aY hb)
 have xC:=ak (lX.out.trans ((hb).mono lX.out.size))
 have Pk:=ak ((hb).size)
 clear Zg UO Zh Yw_5 lX
 have X_6:=ak (pV hu)
 have HSX:=ak (fun k (hk:Rg wz5.heap.size w6.heap.size k)=>hk)
 clear hu
 clear h hb
 have iE:Below (w6).heap.size (w6) (w6.alloc (.cells #[.slice Zc MO.length Y6,.slice Zb MN.length YZ,.slice Za ML.length YX,.int .i64 MH,.slice Y9 MK.length YW,.slice Y8 MJ.length YV,.slice Y7 MI.length YU,.int .i64 MG] 44)):=(aW _ _).alloc (bK _) _
 have PY_7:=ak (PY_6.out.call iE)
 have Bw_7:=ak (Bw_6.out.call iE)
 have HY_7:=ak (zY bS HY_6.out iE)
 have Yw_7:=ak (Yw_6.out.mv aY iE)
 have X_7:=ak (X_6.out.mv bS iE)
 have rR:=ak (xC.out.trans ((iE).mono xC.out.size))
 have MQ:=ak ((iE).size)
 clear PY_6 Bw_6 HY_6 Yw_6 X_6 xC
 have BX_7:=aO.new (w6) 44 #[.slice Zc MO.length Y6,.slice Zb MN.length YZ,.slice Za ML.length YX,.int .i64 MH,.slice Y9 MK.length YW,.slice Y8 MJ.length YV,.slice Y7 MI.length YU,.int .i64 MG]
 have NG:=ak BX_7
 clear BX_7 iE
 have MP:=ak ((show (w6.alloc (.cells #[.slice Zc MO.length Y6,.slice Zb MN.length YZ,.slice Za ML.length YX,.int .i64 MH,.slice Y9 MK.length YW,.slice Y8 MJ.length YV,.slice Y7 MI.length YU,.int .i64 MG] 44)).heap.size=w6.heap.size+1 by simp))
 obtain ⟨wz7,Ah⟩:∃ w,w=w6.alloc (.cells #[.slice Zc MO.length Y6,.slice Zb MN.length YZ,.slice Za ML.length YX,.int .i64 MH,.slice Y9 MK.length YW,.slice Y8 MJ.length YV,.slice Y7 MI.length YU,.int .i64 MG] 44):=⟨_,rfl⟩
 rw [←Ah] at PY_7 Bw_7 NG HY_7 Yw_7 X_7 rR MQ MP
 obtain ⟨Na,M9,M8,M7,M6,M5,M4,M0⟩:=NG.out.gy rfl
 have OJ:=Na
 rw [Ah] at OJ
 have OI:=M9
 rw [Ah] at OI
 have OH:=M8
 rw [Ah] at OH
 have OG:=M7
 rw [Ah] at OG
 have OE:=M6
 rw [Ah] at OE
 have OD:=M5
 rw [Ah] at OD
 have OC:=M4
 rw [Ah] at OC
 have OB:=M0
 rw [Ah] at OB
 go_wp2_with fail
 rw [←Ah]
 clear Ah
 refine (Ir (abk.out.mv rR.out) hM0 hM1 Gq.out (X_7.out.rd bS)).mono ?_
 intro e w8 h
 rw [Xy.out] at h
 obtain ⟨us,rfl,hu,hb⟩:=bY h
 obtain ⟨YG,Ym,YC,Yj,Yz,Yg,Yw,Yd,Yt,Ya,Yp,XZ,rfl,hu⟩:=nX hu
 clear Na M9 M8 M7 M6 M5 M4 M0 OJ OI OH OG OE OD OC OB
 have PY_8:=ak (PY_7.out.call hb)
 have Bw_8:=ak (Bw_7.out.call hb)
 have BX_8:=ak (NG.out.call hb)
 have HY_8:=ak (zY bS HY_7.out hb)
 have Yw_8:=ak (Yw_7.out.mv aY hb)
 have X_8:=ak (X_7.out.mv bS hb)
 have Pv:=ak (rR.out.trans ((hb).mono rR.out.size))
 have xP:=ak ((hb).size)
 clear PY_7 Bw_7 NG HY_7 Yw_7 X_7 rR
 have Yg_8:=ak (pV hu)
 have HSg:=ak (fun k (hk:Rg wz7.heap.size w8.heap.size k)=>hk)
 clear hu
 clear h hb
 have iE:Below (w8).heap.size (w8) (w8.alloc (.cells #[.slice YG R9.length Ym,.slice YC R8.length Yj,.slice Yz R7.length Yg,.int .i64 R3,.slice Yw R6.length Yd,.slice Yt R5.length Ya,.slice Yp R4.length XZ,.int .i64 RZ,.int .i64 RY,.int .i64 RX] 46)):=(aW _ _).alloc (bK _) _
 have PY_9:=ak (PY_8.out.call iE)
 have Zq:=ak (Bw_8.out.call iE)
 have BX_9:=ak (BX_8.out.call iE)
 have HY_9:=ak (zY bS HY_8.out iE)
 have Zd:=ak (Yw_8.out.mv aY iE)
 have X_9:=ak (X_8.out.mv bS iE)
 have Ze:=ak (Yg_8.out.mv aY iE)
 have mY:=ak (Pv.out.trans ((iE).mono Pv.out.size))
 have vQ:=ak ((iE).size)
 clear PY_8 Bw_8 BX_8 HY_8 Yw_8 X_8 Yg_8 Pv
 have Bg_9:=aO.new (w8) 46 #[.slice YG R9.length Ym,.slice YC R8.length Yj,.slice Yz R7.length Yg,.int .i64 R3,.slice Yw R6.length Yd,.slice Yt R5.length Ya,.slice Yp R4.length XZ,.int .i64 RZ,.int .i64 RY,.int .i64 RX]
 have ND:=ak Bg_9
 clear Bg_9 iE
 have vP:=ak ((show (w8.alloc (.cells #[.slice YG R9.length Ym,.slice YC R8.length Yj,.slice Yz R7.length Yg,.int .i64 R3,.slice Yw R6.length Yd,.slice Yt R5.length Ya,.slice Yp R4.length XZ,.int .i64 RZ,.int .i64 RY,.int .i64 RX] 46)).heap.size=w8.heap.size+1 by simp))
 obtain ⟨wz9,l8⟩:∃ w,w=w8.alloc (.cells #[.slice YG R9.length Ym,.slice YC R8.length Yj,.slice Yz R7.length Yg,.int .i64 R3,.slice Yw R6.length Yd,.slice Yt R5.length Ya,.slice Yp R4.length XZ,.int .i64 RZ,.int .i64 RY,.int .i64 RX] 46):=⟨_,rfl⟩
 rw [←l8] at PY_9 Zq BX_9 ND HY_9 Zd X_9 Ze mY vQ vP
 obtain ⟨tZ,tY,tX,tV,tQ,tO,tN,tL,tK,tJ⟩:=ND.out.ji rfl
 obtain ⟨AP,AO,AL,AJ,AB,AA,Az,Ay,Aw,Av⟩:=Zq.out.ji rfl
 have OA:=tZ
 rw [l8] at OA
 have Oz:=tY
 rw [l8] at Oz
 have Oy:=tX
 rw [l8] at Oy
 have Ox:=tV
 rw [l8] at Ox
 have Ow:=tQ
 rw [l8] at Ow
 have Ov:=tO
 rw [l8] at Ov
 have Ou:=tN
 rw [l8] at Ou
 have Ot:=tL
 rw [l8] at Ot
 have Oq:=tK
 rw [l8] at Oq
 have Oo:=tJ
 rw [l8] at Oo
 have wH:=AP
 rw [l8] at wH
 have wG:=AO
 rw [l8] at wG
 have wF:=AL
 rw [l8] at wF
 have wE:=AJ
 rw [l8] at wE
 have wD:=AB
 rw [l8] at wD
 have wC:=AA
 rw [l8] at wC
 have wB:=Az
 rw [l8] at wB
 have wz:=Ay
 rw [l8] at wz
 have wu:=Aw
 rw [l8] at wu
 have wh:=Av
 rw [l8] at wh
 go_wp2_with fail
 rw [←l8]
 clear l8
 refine (rC (Ze.out.rd aY) (Zd.out.rd aY)).mono ?_
 intro e w10 h
 obtain ⟨rfl,hb⟩:=bU h
 clear tZ tY tX tV tQ tO tN tL tK tJ AP AO AL AJ AB AA Az Ay Aw Av OA Oz Oy Ox Ow Ov Ou Ot Oq Oo wH wG wF wE wD wC wB wz wu wh
 have ug:=ak (PY_9.out.call hb)
 have abt:=ak (Zq.out.call hb)
 have um:=ak (BX_9.out.call hb)
 have abA:=ak (ND.out.call hb)
 have abg:=ak (zY bS HY_9.out hb)
 have ad5:=ak (Zd.out.mv aY hb)
 have X_10:=ak (X_9.out.mv bS hb)
 have ad7:=ak (Ze.out.mv aY hb)
 have kK:=ak (mY.out.trans ((hb).mono mY.out.size))
 have xO:=ak ((hb).size)
 clear PY_9 Zq BX_9 ND HY_9 Zd X_9 Ze mY
 clear h hb
 go_wp2_with fail
 refine dX (S:=(fun V=>Below (w10).heap.size (w10) V)) (by kernel_rfl) ((aW _ _).drew) (fun ah=>?_)
 refine tk 0 ah ?_ (hy:=fun w aj=>by (try dsimp only at aj);have k0:=um.out.hat aj 0 rfl;have k1:=um.out.hat aj 1 rfl;have k2:=um.out.hat aj 2 rfl;have k3:=um.out.hat aj 3 rfl;have k4:=um.out.hat aj 4 rfl;have k5:=um.out.hat aj 5 rfl;have k6:=um.out.hat aj 6 rfl;have k7:=um.out.hat aj 7 rfl;clear aj;go_simp;try with_reducible rfl)
 refine tk 1 ah ?_ (hy:=fun w aj=>by (try dsimp only at aj);have k0:=ug.out.hat aj 0 rfl;have k1:=ug.out.hat aj 1 rfl;have k2:=ug.out.hat aj 2 rfl;have k3:=ug.out.hat aj 3 rfl;have k4:=ug.out.hat aj 4 rfl;have k5:=ug.out.hat aj 5 rfl;have k6:=ug.out.hat aj 6 rfl;have k7:=ug.out.hat aj 7 rfl;clear aj;go_simp;try with_reducible rfl)
 refine dw 2 (fun K hK=>?_)
 go_simp
 go_at_call 9
 refine (wS Gq.out (zY bS abg.out ah)).mono ?_
 intro e w1001 h
 obtain ⟨us,rfl,hu,hb⟩:=bY h
 obtain ⟨aev,aen,aeu,aem,aes,ael,aer,aek,aep,aej,aeo,aei,rfl,hu⟩:=wN hu
 have NZ:=ak (pV hu)
 clear h hu
 refine hK.out _ _ (ah.trans (hb.mono ah.size)) (fun ah=>?_)
 clear hK K hb
 refine dw 3 (fun K hK=>?_)
 go_simp
 go_at_call 13
 refine (WI (zY bS (X_10.out.rd bS) ah) (NZ.out.rd bS)).mono ?_
 intro e w1002 h
 obtain ⟨rfl,hb⟩:=bU h
 clear h
 refine hK.out _ _ (ah.trans (hb.mono ah.size)) (fun ah=>?_)
 clear hK K hb
 refine tk 4 ah ?_
 refine dQ ?_
 have HF:=ak ah
 clear ah
 have hF:=HF.out
 have aa8:=ak (ug.out.call hF)
 have abr:=ak (abt.out.call hF)
 have U1:=ak (um.out.call hF)
 have abz:=ak (abA.out.call hF)
 have HY_11:=ak (zY bS abg.out hF)
 have ad4:=ak (ad5.out.mv aY hF)
 have X_11:=ak (X_10.out.mv bS hF)
 have ad6:=ak (ad7.out.mv aY hF)
 have HB11:=ak (kK.out.trans ((hF).mono kK.out.size))
 have xM:=ak ((hF).size)
 clear ug abt um abA kK
 clear HF hF NZ
 obtain ⟨Na,M9,M8,M7,M6,M5,M4,M0⟩:=U1.out.gy rfl
 go_wp2_with fail
 refine (L6 (by omega) (by have h1:=HSAY.out;omega) X_11.out.2 X_11.out.1).mono ?_
 intro e wm h
 obtain ⟨dM,y1,rfl,hmv,hzz,ho,hoff⟩:=BM h
 clear Na M9 M8 M7 M6 M5 M4 M0
 have gU:=ak (HB11.out.trans (hoff.below HB11.out.size (fun k hk=>by have zC:=HZ2.out;have zB:=HZ3.out;have zA:=vI.out;have zy:=MS.out;have zx:=MR.out;have zw:=Pk.out;have zu:=MQ.out;have zq:=MP.out;have qz:=xP.out;have qy:=vQ.out;have qx:=vP.out;have qw:=xO.out;have qp:=xM.out;have zD:=Pn.out;have rX:=HSX.out _ hk;try unfold Rg at rX;omega)))
 have aa7:=ak (aa8.out.off hoff aa8.out.lt (fun hk=>by have zC:=HZ2.out;have zB:=HZ3.out;have zA:=vI.out;have zy:=MS.out;have zx:=MR.out;have zw:=Pk.out;have zu:=MQ.out;have zq:=MP.out;have qz:=xP.out;have qy:=vQ.out;have qx:=vP.out;have qw:=xO.out;have qp:=xM.out;have zD:=Pn.out;have rX:=HSX.out _ hk;try unfold Rg at rX;omega))
 have UQ:=ak (abr.out.off hoff abr.out.lt (fun hk=>by have zC:=HZ2.out;have zB:=HZ3.out;have zA:=vI.out;have zy:=MS.out;have zx:=MR.out;have zw:=Pk.out;have zu:=MQ.out;have zq:=MP.out;have qz:=xP.out;have qy:=vQ.out;have qx:=vP.out;have qw:=xO.out;have qp:=xM.out;have zD:=Pn.out;have rX:=HSX.out _ hk;try unfold Rg at rX;omega))
 have abH:=ak (U1.out.off hoff U1.out.lt (fun hk=>by have zC:=HZ2.out;have zB:=HZ3.out;have zA:=vI.out;have zy:=MS.out;have zx:=MR.out;have zw:=Pk.out;have zu:=MQ.out;have zq:=MP.out;have qz:=xP.out;have qy:=vQ.out;have qx:=vP.out;have qw:=xO.out;have qp:=xM.out;have zD:=Pn.out;have rX:=HSX.out _ hk;try unfold Rg at rX;omega))
 have UZ:=ak (abz.out.off hoff abz.out.lt (fun hk=>by have zC:=HZ2.out;have zB:=HZ3.out;have zA:=vI.out;have zy:=MS.out;have zx:=MR.out;have zw:=Pk.out;have zu:=MQ.out;have zq:=MP.out;have qz:=xP.out;have qy:=vQ.out;have qx:=vP.out;have qw:=xO.out;have qp:=xM.out;have zD:=Pn.out;have rX:=HSX.out _ hk;try unfold Rg at rX;omega))
 have abf:=ak (zY bS HY0.out gU.out)
 have Um:=ak (ad4.out.off aY hoff (fun k hk hk2=>by have zC:=HZ2.out;have zB:=HZ3.out;have zA:=vI.out;have zy:=MS.out;have zx:=MR.out;have zw:=Pk.out;have zu:=MQ.out;have zq:=MP.out;have qz:=xP.out;have qy:=vQ.out;have qx:=vP.out;have qw:=xO.out;have qp:=xM.out;have zD:=Pn.out;have rX:=HSX.out k hk2;try unfold Rg at rX;have rw:=HSw.out k hk;try unfold Rg at rw;omega))
 have Us:=ak (ad6.out.off aY hoff (fun k hk hk2=>by have zC:=HZ2.out;have zB:=HZ3.out;have zA:=vI.out;have zy:=MS.out;have zx:=MR.out;have zw:=Pk.out;have zu:=MQ.out;have zq:=MP.out;have qz:=xP.out;have qy:=vQ.out;have qx:=vP.out;have qw:=xO.out;have qp:=xM.out;have zD:=Pn.out;have rX:=HSX.out k hk2;try unfold Rg at rX;have rg:=HSg.out k hk;try unfold Rg at rg;omega))
 have hkn:decide (y1<0)=false:=dS (by omega)
 have Qj:=ak (hoff.size)
 clear h hmv hzz ho hoff
 obtain ⟨tZ,tY,tX,tV,tQ,tO,tN,tL,tK,tJ⟩:=UZ.out.ji rfl
 obtain ⟨AP,AO,AL,AJ,AB,AA,Az,Ay,Aw,Av⟩:=UQ.out.ji rfl
 go_wp2_with fail
 refine (rC (Us.out.rd aY) (Um.out.rd aY)).mono ?_
 intro e w13 h
 obtain ⟨rfl,hb⟩:=bU h
 clear tZ tY tX tV tQ tO tN tL tK tJ AP AO AL AJ AB AA Az Ay Aw Av
 have aa6:=ak (aa7.out.call hb)
 have abq:=ak (UQ.out.call hb)
 have abG:=ak (abH.out.call hb)
 have UY:=ak (UZ.out.call hb)
 have HY_13:=ak (zY bS abf.out hb)
 have ad3:=ak (Um.out.mv aY hb)
 have Ur:=ak (Us.out.mv aY hb)
 have HB13:=ak (gU.out.trans ((hb).mono gU.out.size))
 have Qi:=ak ((hb).size)
 clear aa7 UQ abH UZ abf Um Us gU
 clear h hb
 clear hkn
 obtain ⟨tZ,tY,tX,tV,tQ,tO,tN,tL,tK,tJ⟩:=UY.out.ji rfl
 go_wp2_with fail
 refine (Dl (by omega) (by have h1:=HSM.out;omega) Ur.out.2 Ur.out.1).mono ?_
 intro e wn h
 obtain ⟨dN,zN,rfl,hmv,hzz,ho,hoff⟩:=BM h
 clear tZ tY tX tV tQ tO tN tL tK tJ
 have Zo:=ak (HB13.out.trans (hoff.below HB13.out.size (fun k hk=>by have zC:=HZ2.out;have zB:=HZ3.out;have zA:=vI.out;have zy:=MS.out;have zx:=MR.out;have zw:=Pk.out;have zu:=MQ.out;have zq:=MP.out;have qz:=xP.out;have qy:=vQ.out;have qx:=vP.out;have qw:=xO.out;have qp:=xM.out;have Gv:=Qj.out;have Gu:=Qi.out;have zD:=Pn.out;have rg:=HSg.out _ hk;try unfold Rg at rg;omega)))
 have aa5:=ak (aa6.out.off hoff aa6.out.lt (fun hk=>by have zC:=HZ2.out;have zB:=HZ3.out;have zA:=vI.out;have zy:=MS.out;have zx:=MR.out;have zw:=Pk.out;have zu:=MQ.out;have zq:=MP.out;have qz:=xP.out;have qy:=vQ.out;have qx:=vP.out;have qw:=xO.out;have qp:=xM.out;have Gv:=Qj.out;have Gu:=Qi.out;have zD:=Pn.out;have rg:=HSg.out _ hk;try unfold Rg at rg;omega))
 have abp:=ak (abq.out.off hoff abq.out.lt (fun hk=>by have zC:=HZ2.out;have zB:=HZ3.out;have zA:=vI.out;have zy:=MS.out;have zx:=MR.out;have zw:=Pk.out;have zu:=MQ.out;have zq:=MP.out;have qz:=xP.out;have qy:=vQ.out;have qx:=vP.out;have qw:=xO.out;have qp:=xM.out;have Gv:=Qj.out;have Gu:=Qi.out;have zD:=Pn.out;have rg:=HSg.out _ hk;try unfold Rg at rg;omega))
 have abF:=ak (abG.out.off hoff abG.out.lt (fun hk=>by have zC:=HZ2.out;have zB:=HZ3.out;have zA:=vI.out;have zy:=MS.out;have zx:=MR.out;have zw:=Pk.out;have zu:=MQ.out;have zq:=MP.out;have qz:=xP.out;have qy:=vQ.out;have qx:=vP.out;have qw:=xO.out;have qp:=xM.out;have Gv:=Qj.out;have Gu:=Qi.out;have zD:=Pn.out;have rg:=HSg.out _ hk;try unfold Rg at rg;omega))
 have UW:=ak (UY.out.off hoff UY.out.lt (fun hk=>by have zC:=HZ2.out;have zB:=HZ3.out;have zA:=vI.out;have zy:=MS.out;have zx:=MR.out;have zw:=Pk.out;have zu:=MQ.out;have zq:=MP.out;have qz:=xP.out;have qy:=vQ.out;have qx:=vP.out;have qw:=xO.out;have qp:=xM.out;have Gv:=Qj.out;have Gu:=Qi.out;have zD:=Pn.out;have rg:=HSg.out _ hk;try unfold Rg at rg;omega))
 have abe:=ak (zY bS HY0.out Zo.out)
 have aaT:=ak (ad3.out.off aY hoff (fun k hk hk2=>by have zC:=HZ2.out;have zB:=HZ3.out;have zA:=vI.out;have zy:=MS.out;have zx:=MR.out;have zw:=Pk.out;have zu:=MQ.out;have zq:=MP.out;have qz:=xP.out;have qy:=vQ.out;have qx:=vP.out;have qw:=xO.out;have qp:=xM.out;have Gv:=Qj.out;have Gu:=Qi.out;have zD:=Pn.out;have rg:=HSg.out k hk2;try unfold Rg at rg;have rw:=HSw.out k hk;try unfold Rg at rw;omega))
 have Uq:=ak (show Xr cB wn _ dN _ from ⟨ho,fun k hk=>bV (Ur.out.2 k hk) hoff.size⟩)
 have HMV:=ak hmv
 have hzn:decide (zN<0)=false:=dS (by omega)
 have hze:(zN != zN)=false:=by simp
 have hzb:zN≤4611686018427387904:=by have:=HSM.out;omega
 have HZ17:=ak (hoff.size)
 clear h hmv hzz ho hoff
 obtain ⟨tZ,tY,tX,tV,tQ,tO,tN,tL,tK,tJ⟩:=UW.out.ji rfl
 go_wp2_with fail
 refine (uD (by omega) hzb HMV.out (Uq.out.rd aY)).mono ?_
 intro e w15 h
 obtain ⟨rfl,hb⟩:=eU h
 clear tZ tY tX tV tQ tO tN tL tK tJ
 have Uu:=ak (aa5.out.call hb)
 have abo:=ak (abp.out.call hb)
 have abE:=ak (abF.out.call hb)
 have aby:=ak (UW.out.call hb)
 have UA:=ak (zY bS abe.out hb)
 have aaS:=ak (aaT.out.mv aY hb)
 have aaY:=ak (Uq.out.mv aY hb)
 have HB15:=ak (Zo.out.trans ((hb).mono Zo.out.size))
 have HZ18:=ak ((hb).size)
 clear aa5 abp abF UW abe aaT Uq Zo
 clear h hb
 obtain ⟨tH,tF,tC,tu,tq,sZ,sW,sV⟩:=Uu.out.gy rfl
 go_wp2_with fail
 refine (wS Gq.out UA.out).mono ?_
 intro e w16 h
 obtain ⟨us,rfl,hu,hb⟩:=bY h
 obtain ⟨aY016,cY016,aY116,cY116,aY216,cY216,aY316,cY316,aY416,cY416,aY516,cY516,rfl,hu⟩:=wN hu
 clear tH tF tC tu tq sZ sW sV
 have aa4:=ak (Uu.out.call hb)
 have abn:=ak (abo.out.call hb)
 have abD:=ak (abE.out.call hb)
 have abx:=ak (aby.out.call hb)
 have abd:=ak (zY bS UA.out hb)
 have aaR:=ak (aaS.out.mv aY hb)
 have aaX:=ak (aaY.out.mv aY hb)
 have Zn:=ak (HB15.out.trans ((hb).mono HB15.out.size))
 have HZ19:=ak ((hb).size)
 clear Uu abo abE aby UA aaS aaY HB15
 have Uv:=ak (pV hu)
 clear hu
 clear h hb
 go_wp2_with fail
 refine (Ir (abk.out.mv Zn.out) hM0 hM1 Gq.out (Uv.out.rd bS)).mono ?_
 intro e w17 h
 rw [Xy.out] at h
 obtain ⟨us,rfl,hu,hb⟩:=bY h
 obtain ⟨YF,Yl,YB,Yi,Yy,Yf,Yv,Yc,Yr,X8,Yo,XY,rfl,hu⟩:=nX hu
 have aa3:=ak (aa4.out.call hb)
 have abm:=ak (abn.out.call hb)
 have abC:=ak (abD.out.call hb)
 have abw:=ak (abx.out.call hb)
 have abb:=ak (zY bS abd.out hb)
 have aaQ:=ak (aaR.out.mv aY hb)
 have aaW:=ak (aaX.out.mv aY hb)
 have ad8:=ak (Uv.out.mv bS hb)
 have HB17:=ak (Zn.out.trans ((hb).mono Zn.out.size))
 have HZ20:=ak ((hb).size)
 clear aa4 abn abD abx abd aaR aaX Uv Zn
 have aaV:=ak (pV hu)
 have HSh:=ak (fun k (hk:Rg w16.heap.size w17.heap.size k)=>hk)
 clear hu
 clear h hb
 clear ad8
 have iE:Below (w17).heap.size (w17) (w17.alloc (.cells #[.slice YF R9.length Yl,.slice YB R8.length Yi,.slice Yy R7.length Yf,.int .i64 R3,.slice Yv R6.length Yc,.slice Yr R5.length X8,.slice Yo R4.length XY,.int .i64 RZ,.int .i64 RY,.int .i64 RX] 46)):=(aW _ _).alloc (bK _) _
 have Ut:=ak (aa3.out.call iE)
 have NC:=ak (abm.out.call iE)
 have U0:=ak (abC.out.call iE)
 have UU:=ak (abw.out.call iE)
 have Uz:=ak (zY bS abb.out iE)
 have Nh:=ak (aaQ.out.mv aY iE)
 have Uo:=ak (aaW.out.mv aY iE)
 have Ni:=ak (aaV.out.mv aY iE)
 have Zm:=ak (HB17.out.trans ((iE).mono HB17.out.size))
 have HZ21:=ak ((iE).size)
 clear aa3 abm abC abw abb aaQ aaW aaV HB17
 have abv:=aO.new (w17) 46 #[.slice YF R9.length Yl,.slice YB R8.length Yi,.slice Yy R7.length Yf,.int .i64 R3,.slice Yv R6.length Yc,.slice Yr R5.length X8,.slice Yo R4.length XY,.int .i64 RZ,.int .i64 RY,.int .i64 RX]
 have EM:=ak abv
 clear abv iE
 have HZ22:=ak ((show (w17.alloc (.cells #[.slice YF R9.length Yl,.slice YB R8.length Yi,.slice Yy R7.length Yf,.int .i64 R3,.slice Yv R6.length Yc,.slice Yr R5.length X8,.slice Yo R4.length XY,.int .i64 RZ,.int .i64 RY,.int .i64 RX] 46)).heap.size=w17.heap.size+1 by simp))
 obtain ⟨wz18,jh⟩:∃ w,w=w17.alloc (.cells #[.slice YF R9.length Yl,.slice YB R8.length Yi,.slice Yy R7.length Yf,.int .i64 R3,.slice Yv R6.length Yc,.slice Yr R5.length X8,.slice Yo R4.length XY,.int .i64 RZ,.int .i64 RY,.int .i64 RX] 46):=⟨_,rfl⟩
 rw [←jh] at Ut NC U0 UU EM Uz Nh Uo Ni Zm HZ21 HZ22
 obtain ⟨aaE,aaD,aaC,aaB,aaA,aaz,aay,aax,aaw,aav⟩:=EM.out.ji rfl
 obtain ⟨AP,AO,AL,AJ,AB,AA,Az,Ay,Aw,Av⟩:=NC.out.ji rfl
 have Om:=aaE
 rw [jh] at Om
 have Ol:=aaD
 rw [jh] at Ol
 have Oj:=aaC
 rw [jh] at Oj
 have Oi:=aaB
 rw [jh] at Oi
 have Oh:=aaA
 rw [jh] at Oh
 have Og:=aaz
 rw [jh] at Og
 have Oe:=aay
 rw [jh] at Oe
 have Od:=aax
 rw [jh] at Od
 have Oc:=aaw
 rw [jh] at Oc
 have Ob:=aav
 rw [jh] at Ob
 have wH:=AP
 rw [jh] at wH
 have wG:=AO
 rw [jh] at wG
 have wF:=AL
 rw [jh] at wF
 have wE:=AJ
 rw [jh] at wE
 have wD:=AB
 rw [jh] at wD
 have wC:=AA
 rw [jh] at wC
 have wB:=Az
 rw [jh] at wB
 have wz:=Ay
 rw [jh] at wz
 have wu:=Aw
 rw [jh] at wu
 have wh:=Av
 rw [jh] at wh
 go_wp2_with fail
 rw [←jh]
 clear jh
 refine (rC (Ni.out.rd aY) (Nh.out.rd aY)).mono ?_
 intro e w19 h
 obtain ⟨rfl,hb⟩:=bU h
 clear aaE aaD aaC aaB aaA aaz aay aax aaw aav AP AO AL AJ AB AA Az Ay Aw Av Om Ol Oj Oi Oh Og Oe Od Oc Ob wH wG wF wE wD wC wB wz wu wh
 have aa2:=ak (Ut.out.call hb)
 have abl:=ak (NC.out.call hb)
 have abB:=ak (U0.out.call hb)
 have UR:=ak (UU.out.call hb)
 have abu:=ak (EM.out.call hb)
 have aa9:=ak (zY bS Uz.out hb)
 have aaP:=ak (Nh.out.mv aY hb)
 have Un:=ak (Uo.out.mv aY hb)
 have aaU:=ak (Ni.out.mv aY hb)
 have HB19:=ak (Zm.out.trans ((hb).mono Zm.out.size))
 have HZ23:=ak ((hb).size)
 clear Ut NC U0 UU EM Uz Nh Uo Ni Zm
 clear h hb
 obtain ⟨tZ,tY,tX,tV,tQ,tO,tN,tL,tK,tJ⟩:=UR.out.ji rfl
 go_wp2_with fail
 refine (uD (by omega) hzb HMV.out (Un.out.rd aY)).mono ?_
 intro e w20 h
 obtain ⟨rfl,hb⟩:=eU h
 clear tZ tY tX tV tQ tO tN tL tK tJ
 have PY_20:=ak (aa2.out.call hb)
 have Bw_20:=ak (abl.out.call hb)
 have BX_20:=ak (abB.out.call hb)
 have Bg_20:=ak (UR.out.call hb)
 have Bh_20:=ak (abu.out.call hb)
 have HY_20:=ak (zY bS aa9.out hb)
 have Yw_20:=ak (aaP.out.mv aY hb)
 have Yg_20:=ak (Un.out.mv aY hb)
 have Yh_20:=ak (aaU.out.mv aY hb)
 have HB20:=ak (HB19.out.trans ((hb).mono HB19.out.size))
 have HZ24:=ak ((hb).size)
 clear aa2 abl abB UR abu aa9 aaP Un aaU HB19
 clear h hb
 go_wp2
 go_ret
 exact ⟨rfl,HB20.out⟩
end
end aQ
end Go.Proofs.YtlhfiapfncikdaaGreatDoor
