import Derived.Test.YtlhfiapfncikdaaGreatDoorPU35
import Derived.Test.YtlhfiapfncikdaaGreatDoorPU36
set_option linter.unusedVariables false
set_option linter.unusedSimpArgs false
set_option maxRecDepth 100000
set_option maxHeartbeats 3200000
namespace Go.Proofs.YtlhfiapfncikdaaGreatDoor.aP
section
open Go.RowKit bN bP bJ bM xu Xe
theorem zx {a:Nat→Addr}{C:List (List av)}{P:List bq}{Q:List aV}{hf:Int}{ca pa qa:Option Addr}{cc pc qc:Nat}{N:List aO}{T:List aG}{U:List bH}{now:Int}{na ta ua:Option Addr}{nc tc uc:Nat}{n fZ:Int}{W:World}(hD:oI 7 W a)(h0:-9223372036854775808≤n)(h1:n≤9223372036854775807)(hq:Q.length≤1048576)(hts:(Sl aI).sz T≤1048576)(hC:aH (Sl au) W W.heap.size C ca cc)(hP:aH aS W W.heap.size P pa pc)(hQ:aH aM W W.heap.size Q qa qc)(hN:aH aJ W W.heap.size N na nc)(hT:aH aI W W.heap.size T ta tc)(hU:aH bD W W.heap.size U ua uc) :
 Calls Tryz.prog 23 #[.agg #[.slice ca C.length cc,.slice pa P.length pc,.slice qa Q.length qc,.int .i64 hf,.slice na N.length nc,.slice ta T.length tc,.slice ua U.length uc,.int .i64 now],.int .i64 n,.int .i64 fZ] W (kU cu (xq ((C,P,Q,hf),N,T,U,now) (gY ((C,P,Q,hf),N,T,U,now) n fZ)) W):=by
 have JE:=aj hC
 have FC:=aj hP
 have JB:=aj hQ
 have JD:=aj hN
 have Mw:=aj hT
 have Mv:=aj hU
 have Xu:=aj hD
 clear hC hP hQ hN hT hU hD
 obtain ⟨w0,hw0⟩:∃ w,w=(((W.alloc (.cells #[.slice ca C.length cc,.slice pa P.length pc,.slice qa Q.length qc,.int .i64 hf,.slice na N.length nc,.slice ta T.length tc,.slice ua U.length uc,.int .i64 now] 44)).alloc (.cells #[.int .i64 n] 2)).alloc (.cells #[.int .i64 fZ] 2)).alloc (.cells #[.slice none 0 0,.slice none 0 0,.slice none 0 0,.int .i64 0,.slice none 0 0,.slice none 0 0,.slice none 0 0,.int .i64 0,.int .i64 0,.int .i64 0] 46):=⟨_,rfl⟩
 have hb0:Below W.heap.size W w0:=by rw [hw0];exact ((((aU _ _).alloc (bK _) _).alloc (by simp) _).alloc (by simp <;> omega) _).alloc (by simp <;> omega) _
 have kX:aN w0 (W.heap.size) 44 #[.slice ca C.length cc,.slice pa P.length pc,.slice qa Q.length qc,.int .i64 hf,.slice na N.length nc,.slice ta T.length tc,.slice ua U.length uc,.int .i64 now]:=by
  have h9:=aN.new W 44 #[.slice ca C.length cc,.slice pa P.length pc,.slice qa Q.length qc,.int .i64 hf,.slice na N.length nc,.slice ta T.length tc,.slice ua U.length uc,.int .i64 now]
  try simp only [World.size_alloc] at h9
  rw [hw0];exact (((h9.alloc _).alloc _).alloc _)
 have X0:=aj kX
 have qE:aN w0 (W.heap.size+1) 2 #[.int .i64 n]:=by
  have h9:=aN.new (W.alloc (.cells #[.slice ca C.length cc,.slice pa P.length pc,.slice qa Q.length qc,.int .i64 hf,.slice na N.length nc,.slice ta T.length tc,.slice ua U.length uc,.int .i64 now] 44)) 2 #[.int .i64 n]
  try simp only [World.size_alloc] at h9
  rw [hw0];exact ((h9.alloc _).alloc _)
 have X1:=aj qE
 have x2_:aN w0 (W.heap.size+1+1) 2 #[.int .i64 fZ]:=by
  have h9:=aN.new ((W.alloc (.cells #[.slice ca C.length cc,.slice pa P.length pc,.slice qa Q.length qc,.int .i64 hf,.slice na N.length nc,.slice ta T.length tc,.slice ua U.length uc,.int .i64 now] 44)).alloc (.cells #[.int .i64 n] 2)) 2 #[.int .i64 fZ]
  try simp only [World.size_alloc] at h9
  rw [hw0];exact (h9.alloc _)
 have X2:=aj x2_
 have x3_:aN w0 (W.heap.size+1+1+1) 46 #[.slice none 0 0,.slice none 0 0,.slice none 0 0,.int .i64 0,.slice none 0 0,.slice none 0 0,.slice none 0 0,.int .i64 0,.int .i64 0,.int .i64 0]:=by
  have h9:=aN.new (((W.alloc (.cells #[.slice ca C.length cc,.slice pa P.length pc,.slice qa Q.length qc,.int .i64 hf,.slice na N.length nc,.slice ta T.length tc,.slice ua U.length uc,.int .i64 now] 44)).alloc (.cells #[.int .i64 n] 2)).alloc (.cells #[.int .i64 fZ] 2)) 46 #[.slice none 0 0,.slice none 0 0,.slice none 0 0,.int .i64 0,.slice none 0 0,.slice none 0 0,.slice none 0 0,.int .i64 0,.int .i64 0,.int .i64 0]
  try simp only [World.size_alloc] at h9
  rw [hw0];exact h9
 have X3:=aj x3_
 have HB0:=aj hb0
 have hz0:=hb0.size
 clear hb0  kX qE x2_ x3_
 have hs0:w0.heap.size=W.heap.size+1+1+1+1:=by rw [hw0];simp
 have eg:∀ args w,(callFunc 58 args).run Tryz.prog w=.ok (.enter 58 args) w:=enters_of Tryz.func58 (by kernel_rfl) rfl
 have hcy:=Jp (F:=58) (lb:=#[.pointer (some ⟨W.heap.size+1,0,none⟩),.pointer (some ⟨W.heap.size+1+1,0,none⟩)]) (f:=gY ((C,P,Q,hf),N,T,U,now) n fZ) (hf:=hf) (now:=now) eg (by decide) (Xu.out.mv HB0.out) (fun hY w g lo hDw hB _ hK=>Iy hDw h0 h1 hY hK ((hB.cell (p:=⟨W.heap.size+1,0,none⟩) X1.out.lt).trans (X1.out.at_ 0 rfl)) ((hB.cell (p:=⟨W.heap.size+1+1,0,none⟩) X2.out.lt).trans (X2.out.at_ 0 rfl))) hq hts (aC (aY ak) JE.out HB0.out) (aC aD FC.out HB0.out) (aC aB JB.out HB0.out) (aC aK JD.out HB0.out) (aC ay Mw.out HB0.out) (aC aT Mv.out HB0.out)
 have HCY:=aj hcy
 have hmf:∀ (fn:Fn) (first cap:Array Value) (w:World),(Instr.makeFunc fn first cap).run Tryz.prog w=.ok (.func fn first cap) w:=fun _ _ _ _=>rfl
 clear hcy eg
 go_enter Tryz.func23,Tryz.ntmps23
 go_upto_region 1 with fail
 rw [←hw0]
 clear hw0
 obtain ⟨dB,dA,dz,dx,fO,fM,fK,fJ⟩:=X0.out.fV rfl
 go_wp2_with fail
 refine HCY.out.mono ?_
 intro e w1 h
 obtain ⟨⟨⟨⟨C2,P2,Q2,hf2⟩,N2,T2,U2,zW⟩,id2,k2⟩,hd⟩:∃ d:dZ,xq ((C,P,Q,hf),N,T,U,now) (gY ((C,P,Q,hf),N,T,U,now) n fZ)=d:=⟨_,rfl⟩
 rw [hd] at h
 have Xv:=aj hd
 obtain ⟨us,rfl,hu,hb⟩:=bX h
 obtain ⟨a0,c0,a1,c1,a2,c2,a3,c3,a4,c4,a5,c5,rfl,hu⟩:=nO hu
 have HU:=aj hu
 have HB1:=aj (HB0.out.trans (hb.mono hz0))
 have Y3:=aj (X3.out.call hb)
 have hz1:w0.heap.size≤w1.heap.size:=hb.size
 clear h hu hb hd hmf HCY dB dA dz dx fO fM fK fJ
 obtain ⟨q0,q1,q2,q3,q4,q5,q6,q7,q8,q9⟩:=Y3.out.jk rfl
 obtain ⟨f0,f1,f2,f3,f4,f5,f6,f7,f8,f9⟩:=Y3.out.Aj
 have HST:=aj (iP w1 (W.heap.size+1+1+1) (.slice a0 C2.length c0) (.slice a1 P2.length c1) (.slice a2 Q2.length c2) (.int .i64 hf2) (.slice a3 N2.length c3) (.slice a4 T2.length c4) (.slice a5 U2.length c5) (.int .i64 zW) (.int .i64 id2) (.int .i64 k2))
 have rD:=aj (iQ (w:=w1) (g:=W.heap.size+1+1+1) (v0:=.slice a0 C2.length c0) (v1:=.slice a1 P2.length c1) (v2:=.slice a2 Q2.length c2) (v3:=.int .i64 hf2) (v4:=.slice a3 N2.length c3) (v5:=.slice a4 T2.length c4) (v6:=.slice a5 U2.length c5) (v7:=.int .i64 zW) (v8:=.int .i64 id2) (v9:=.int .i64 k2) Y3.out)
 have uw:=aj (jA HB1.out HST.out (fun k hk=>by rw [hk];omega) HB1.out.size)
 obtain ⟨r0,r1,r2,r3,r4,r5,r6,r7,r8,r9⟩:=rD.out.jk rfl
 go_wp2
 refine qA (v:=.agg #[.slice a0 C2.length c0,.slice a1 P2.length c1,.slice a2 Q2.length c2,.int .i64 hf2,.slice a3 N2.length c3,.slice a4 T2.length c4,.slice a5 U2.length c5,.int .i64 zW,.int .i64 id2,.int .i64 k2]) (by simp [results,Tryz.results23,go_sem, *]) rfl ⟨[.slice a0 C2.length c0,.slice a1 P2.length c1,.slice a2 Q2.length c2,.int .i64 hf2,.slice a3 N2.length c3,.slice a4 T2.length c4,.slice a5 U2.length c5,.int .i64 zW,.int .i64 id2,.int .i64 k2],rfl,?_,uw.out⟩
 rw [Xv.out]
 have hsz:=HST.out.size
 exact aX.pQ (aX.bU HU.out fun q hq=>HST.out.block q hq.2 (by have:=hq.1;show ¬q=W.heap.size+1+1+1;omega)) fun q hq=>⟨by have:=hq.1;omega,by have:=hq.2;omega⟩
end
section
open Go.ChangeShapes Go.WideShapes Go.ChangeAt Go.RowKit Go.Joins Go.Deep bN bP
theorem ZP:Tryz.prog.cellsOf 27=1:=by kernel_rfl
theorem abV:Tryz.prog.cellsOf 31=8:=by kernel_rfl
theorem Vy:zC bW 31:=fun enc W fuel cs y h=>by
 obtain ⟨xs,n,_,_,hl,hlen,hf⟩:=DataW.trod_struct Tryz.underlying31 h
 rw [abV] at hl
 match cs,hl with
 | [c0,c1,c2,c3,c4,c5,c6,c7],_=>
  have e2:xs.length=5:=hlen
  match xs,e2 with
  | [y0,y1,y2,y3,y4],_=>
   have g0:=qG hf 0 26 0 4 rfl Im
   have g1:=qG hf 1 27 4 1 rfl ZP
   have g2:=qG hf 2 28 5 1 rfl ZM
   have g3:=qG hf 3 29 6 1 rfl abW
   have g4:=qG hf 4 2 7 1 rfl fI
   obtain ⟨d0,h0⟩:=KQ enc W n [c0,c1,c2,c3] y0 g0
   obtain ⟨d1,h1⟩:=Qz enc W n [c4] y1 g1
   obtain ⟨d2,h2⟩:=Qv enc W n [c5] y2 g2
   obtain ⟨d3,h3⟩:=Vz enc W n [c6] y3 g3
   obtain ⟨d4,h4⟩:=fH enc W n [c7] y4 g4
   exact ⟨(d0,d1,d2,d3,d4),⟨[c0,c1,c2,c3],[c4,c5,c6,c7],rfl,h0,⟨[c4],[c5,c6,c7],rfl,h1,⟨[c5],[c6,c7],rfl,h2,⟨[c6],[c7],rfl,h3,h4⟩⟩⟩⟩⟩
theorem QB {H:Type}{enc:TypeId×Value→H}{W:World}{base:Nat}{v:Value}{d:DataW H}{p:List MemPlace}(o:Value.okWide Tryz.prog W .any base 31 v)(h:DataW.Trod enc Tryz.prog W 0 (fun _=>true) true 31 v d p) :
 ∃ (L0:List (List (av))) (L1:List (bq)) (L2:List (aV)) (x3:Int) (L3:List (aO)) (L4:List (aG)) (L5:List (bH)) (x7:Int) (a0:Option Addr) (c0:Nat) (a1:Option Addr) (c1:Nat) (a2:Option Addr) (c2:Nat) (a3:Option Addr) (c3:Nat) (a4:Option Addr) (c4:Nat) (a5:Option Addr) (c5:Nat),v=.agg #[.slice a0 L0.length c0,.slice a1 L1.length c1,.slice a2 L2.length c2,.int .i64 x3,.slice a3 L3.length c3,.slice a4 L4.length c4,.slice a5 L5.length c5,.int .i64 x7]∧bW.rd W W.heap.size ((L0,L1,L2,x3),L3,L4,L5,x7) [.slice a0 L0.length c0,.slice a1 L1.length c1,.slice a2 L2.length c2,.int .i64 x3,.slice a3 L3.length c3,.slice a4 L4.length c4,.slice a5 L5.length c5,.int .i64 x7]:=by
 obtain ⟨⟨⟨L0,L1,L2,x3⟩,L3,L4,L5,x7⟩,cs,rfl,hr⟩:=Zu Vy Tryz.underlying31 o h
 obtain ⟨a0,c0,a1,c1,a2,c2,a3,c3,a4,c4,a5,c5,rfl,h0⟩:=Vs hr
 exact ⟨L0,L1,L2,x3,L3,L4,L5,x7,a0,c0,a1,c1,a2,c2,a3,c3,a4,c4,a5,c5,rfl,h0⟩
end
section
open Go.RowKit bN bP bJ bM
theorem Oy:∀ L:List av,bE au.cm L=2*L.length
 | []=>rfl
 | x::xs=>by
  simp only [bE,Oy xs,List.length_cons]
  have:au.cm x=2:=rfl
  omega
theorem Nn:∀ L:List av,bE au.sz L=0
 | []=>rfl
 | x::xs=>by
  simp only [bE,Nn xs]
  rfl
theorem Ij:∀ C:List (List av),bE (Sl au).cm C≤2*(Sl (Sl au)).sz C
 | []=>dX _
 | x::xs=>by
  have h:=Ij xs
  have e:(Sl (Sl au)).sz (x::xs)=(x::xs).length+((Sl au).sz x+bE (Sl au).sz xs):=rfl
  have e2:(Sl (Sl au)).sz xs=xs.length+bE (Sl au).sz xs:=rfl
  have e3:(Sl au).sz x=x.length+bE au.sz x:=rfl
  have e4:(Sl au).cm x=bE au.cm x:=rfl
  rw [e,e3,Nn]
  rw [e2] at h
  simp only [bE,List.length_cons]
  rw [e4,Oy]
  omega
theorem Ih:∀ L:List bq,bE aS.cm L=5*L.length
 | []=>rfl
 | x::xs=>by
  simp only [bE,Ih xs,List.length_cons]
  have:aS.cm x=5:=rfl
  omega
theorem Eb:∀ L:List aV,bE aM.cm L=3*L.length
 | []=>rfl
 | x::xs=>by
  simp only [bE,Eb xs,List.length_cons]
  have:aM.cm x=3:=rfl
  omega
theorem LB {d:Bp}(h:bZ.sz d≤1048576):bZ.cv d≤8388608:=by
 obtain ⟨C,P,Q,hf⟩:=d
 rw [pV,qd,nQ] at h
 rw [BU,Ih,Eb]
 have:=Ij C
 omega
end
section
open Go.RowKit bN bP bJ bM xu
theorem Ox:∀ L:List bH,bE bD.cm L=4*L.length
 | []=>rfl
 | x::xs=>by
  simp only [bE,Ox xs,List.length_cons]
  have:bD.cm x=4:=rfl
  omega
theorem Bh {C:List (List av)}{P:List bq}{Q:List aV}{hf:Int}{N:List aO}{T:List aG}{U:List bH}{now:Int}(h:bW.sz ((C,P,Q,hf),N,T,U,now)≤1048576) :
 bE (Sl au).cm C+bE aS.cm P+bE aM.cm Q≤8388608∧(Sl aJ).sz N≤1048576∧bE aI.cm T≤33554432∧bE bD.cm U≤4194304:=by
 rw [wC] at h
 have h1:=LB (d:=(C,P,Q,hf)) (by omega)
 rw [BU] at h1
 have h2:(Sl aI).cv T≤33554432:=Q7 (by omega)
 have h3:(Sl bD).sz U=U.length+bE bD.sz U:=rfl
 exact ⟨h1,by omega,h2,by rw [Ox];omega⟩
theorem Wu {d:dK}(h:bW.sz d≤1048576):bW.cv d≤67108864:=by
 obtain ⟨⟨C,P,Q,hf⟩,N,T,U,now⟩:=d
 obtain ⟨h1,h2,h3,h4⟩:=Bh h
 have h5:bE aJ.cm N≤8388608:=Q8 h2
 rw [Ib]
 omega
theorem LV {d:dK}{f r:dZ}(hf:vF d=true→cu.cv f≤67108864)(hd:xq d f=r):cu.cv r≤67108864:=by
 subst hd
 cases hc:vF d with
 | true=>rw [Bn hc];exact hf hc
 | false=>
  rw [EP hc]
  show 0+_≤_
  decide
theorem IW {d:dK}{L:List aO}{c:Int}(hsz:bW.sz d≤1048576)(hL:bE aJ.cm L≤8388608):cu.cv (vH d L c)≤67108864:=by
 obtain ⟨⟨C,P,Q,hf⟩,N,T,U,now⟩:=d
 obtain ⟨h1,h2,h3,h4⟩:=Bh hsz
 unfold vH
 split
 ·show cu.cv (((C,P,Q,hf),L,T,U,now),0,0)≤_
  rw [qZ]
  omega
 ·show cu.cv ((([],[],[],0),[],[],[],0),0,c)≤_
  rw [qZ]
  decide
theorem Wi {d:dK}{cs:List Value}{n fZ:Int}{W:World}(hsz:bW.sz d≤1048576)(h:bW.rd W W.heap.size d cs):Calls Tryz.prog 22 #[.agg cs.toArray,.int .i64 n,.int .i64 fZ] W (kU cu (xq d (gY d n fZ)) W):=by
 obtain ⟨⟨C,P,Q,hf⟩,N,T,U,now⟩:=d
 obtain ⟨a0,c0,a1,c1,a2,c2,a3,c3,a4,c4,a5,c5,rfl,k0,k1,k2,k3,k4,k5⟩:=pO h
 rw [wC,pV,qd,nQ] at hsz
 exact zw (by omega) (by omega) k0 k1 k2 k3 k4 k5
theorem Hz {d:dK}{cs:List Value}{n fZ:Int}{W:World}{a:Nat→Addr}(hD:oI 7 W a)(h0:-9223372036854775808≤n)(h1:n≤9223372036854775807)(hsz:bW.sz d≤1048576)(h:bW.rd W W.heap.size d cs):Calls Tryz.prog 23 #[.agg cs.toArray,.int .i64 n,.int .i64 fZ] W (kU cu (xq d (gY d n fZ)) W):=by
 obtain ⟨⟨C,P,Q,hf⟩,N,T,U,now⟩:=d
 obtain ⟨a0,c0,a1,c1,a2,c2,a3,c3,a4,c4,a5,c5,rfl,k0,k1,k2,k3,k4,k5⟩:=pO h
 rw [wC,pV,qd,nQ] at hsz
 exact zx hD h0 h1 (by omega) (by omega) k0 k1 k2 k3 k4 k5
theorem P5 {d:dK}{n fZ:Int}{r:dZ}(hsz:bW.sz d≤1048576)(hd:xq d (gY d n fZ)=r):cu.cv r≤67108864:=
 LV (fun _=>IW hsz (by
  have h2:(Sl aJ).sz d.2.1≤1048576:=by
   obtain ⟨⟨C,P,Q,hf⟩,N,T,U,now⟩:=d
   exact (Bh hsz).2.1
  obtain ⟨⟨R,c⟩,he⟩:∃ x:mO,kM d.2.1 n true (j5 fZ)=x:=⟨_,rfl⟩
  rw [he]
  have h3:=Q9 h2 he
  rw [wP] at h3
  exact h3)) hd
end
section
open Go.ChangeShapes Go.WideShapes Go.ChangeAt Go.RowKit Go.Joins Go.Deep bN bP
theorem QA {H:Type}{enc:TypeId×Value→H}{W:World}{base:Nat}{v:Value}{d:DataW H}{p:List MemPlace}(o:Value.okWide Tryz.prog W .any base 2 v)(h:DataW.Trod enc Tryz.prog W 0 (fun _=>true) true 2 v d p):∃ q:Int,v=.int .i64 q∧-9223372036854775808≤q∧q≤9223372036854775807:=by
 obtain ⟨a0,rfl,rfl,rfl,w0⟩:=open_int Tryz.underlying2 o h
 have h2:(decide (IntKind.i64.min≤a0)&&decide (a0≤IntKind.i64.max))=true:=w0
 rw [Bool.and_eq_true,decide_eq_true_eq,decide_eq_true_eq] at h2
 have e1:IntKind.i64.min=-9223372036854775808:=by decide
 have e2:IntKind.i64.max=9223372036854775807:=by decide
 rw [e1,e2] at h2
 exact ⟨a0,rfl,h2.1,h2.2⟩
end
section
open Go.RowKit bN bP bJ bM xu
theorem Lg {Mk:List (List (av))}{Mj:List (bq)}{Mi:List (aV)}{Me:Int}{Mh:List (aO)}{Mg:List (aG)}{Mf:List (bH)}{Md:Int}{Ya0:Option Addr}{Yc0:Nat}{Ya1:Option Addr}{Yc1:Nat}{Ya2:Option Addr}{Yc2:Nat}{Ya3:Option Addr}{Yc3:Nat}{Ya4:Option Addr}{Yc4:Nat}{Ya5:Option Addr}{Yc5:Nat}{M:Int}{K:Int}{W:World}(hY:bW.rd W W.heap.size ((Mk,Mj,Mi,Me),Mh,Mg,Mf,Md) [.slice Ya0 Mk.length Yc0,.slice Ya1 Mj.length Yc1,.slice Ya2 Mi.length Yc2,.int .i64 Me,.slice Ya3 Mh.length Yc3,.slice Ya4 Mg.length Yc4,.slice Ya5 Mf.length Yc5,.int .i64 Md]){ad:Nat→Addr}(aay:oI 7 W ad)(hM0:-9223372036854775808≤M)(hM1:M≤9223372036854775807) :
 Calls Tryz.prog 6 #[.agg #[.slice Ya0 Mk.length Yc0,.slice Ya1 Mj.length Yc1,.slice Ya2 Mi.length Yc2,.int .i64 Me,.slice Ya3 Mh.length Yc3,.slice Ya4 Mg.length Yc4,.slice Ya5 Mf.length Yc5,.int .i64 Md],.int .i64 M,.int .i64 K] W fun e w'=>e=.returned (.bool true)∧Below W.heap.size W w':=by
 have aa4:=aj aay
 clear aay
 have HY:=aj hY
 have HY0:=aj hY
 clear hY
 have iE:Below (W).heap.size (W) (W.alloc (.cells #[.slice Ya0 Mk.length Yc0,.slice Ya1 Mj.length Yc1,.slice Ya2 Mi.length Yc2,.int .i64 Me,.slice Ya3 Mh.length Yc3,.slice Ya4 Mg.length Yc4,.slice Ya5 Mf.length Yc5,.int .i64 Md] 31)):=(aU _ _).alloc (bK _) _
 have PN:=aj (zM bS HY.out iE)
 have HB1:=aj (show Below W.heap.size W (W.alloc (.cells #[.slice Ya0 Mk.length Yc0,.slice Ya1 Mj.length Yc1,.slice Ya2 Mi.length Yc2,.int .i64 Me,.slice Ya3 Mh.length Yc3,.slice Ya4 Mg.length Yc4,.slice Ya5 Mf.length Yc5,.int .i64 Md] 31)) from iE)
 have HZ1:=aj ((iE).size)
 clear HY
 have PY_1:=aN.new (W) 31 #[.slice Ya0 Mk.length Yc0,.slice Ya1 Mj.length Yc1,.slice Ya2 Mi.length Yc2,.int .i64 Me,.slice Ya3 Mh.length Yc3,.slice Ya4 Mg.length Yc4,.slice Ya5 Mf.length Yc5,.int .i64 Md]
 have Dt:=aj PY_1
 clear PY_1 iE
 by_cases hsz:bW.sz ((Mk,Mj,Mi,Me),Mh,Mg,Mf,Md)≤1048576
 rotate_left
 ·skip
  go_enter Tryz.func6,Tryz.ntmps6
  obtain ⟨sU,sS,sQ,sP,sO,sN,sM,sK⟩:=Dt.out.fV rfl
  go_wp2_with fail
  refine (Ia (by omega) (by omega) PN.out).mono ?_
  intro e w2 h
  obtain ⟨rfl,hb⟩:=gB h
  rw [dF (by omega)]
  clear sU sS sQ sP sO sN sM sK
  have SI:=aj (Dt.out.call hb)
  have YO:=aj (zM bS PN.out hb)
  have HB2:=aj (HB1.out.trans ((hb).mono HB1.out.size))
  have HZ2:=aj ((hb).size)
  clear Dt PN HB1
  clear h hb
  go_wp2
  go_ret
  exact ⟨rfl,HB2.out⟩
 have Gc:=aj hsz
 have HSAY:=aj (Wu hsz)
 obtain ⟨m,hm⟩:∃ m:Nat,bW.sz ((Mk,Mj,Mi,Me),Mh,Mg,Mf,Md)=m:=⟨_,rfl⟩
 have HM:=aj hm
 rw [hm] at hsz
 clear hm
 have hlt1:decide ((1048576:Int)-(m:Int)<0)=false:=dU (by omega)
 obtain ⟨⟨⟨⟨RB,RA,Rz,Ru⟩,Ry,Rx,Rv,Rt⟩,Rs,Rq⟩,hD⟩:∃ d,xq ((Mk,Mj,Mi,Me),Mh,Mg,Mf,Md) (gY ((Mk,Mj,Mi,Me),Mh,Mg,Mf,Md) M K)=d:=⟨_,rfl⟩
 have Xv:=aj hD
 have HSM:=aj (P5 Gc.out hD)
 clear hD
 go_enter Tryz.func6,Tryz.ntmps6
 obtain ⟨sU,sS,sQ,sP,sO,sN,sM,sK⟩:=Dt.out.fV rfl
 go_wp2_with fail
 refine (Ia (by omega) (by omega) PN.out).mono ?_
 intro e w2 h
 obtain ⟨rfl,hb⟩:=gB h
 rw [HM.out,dJ (by omega)]
 clear sU sS sQ sP sO sN sM sK
 have SI:=aj (Dt.out.call hb)
 have YO:=aj (zM bS PN.out hb)
 have HB2:=aj (HB1.out.trans ((hb).mono HB1.out.size))
 have HZ2:=aj ((hb).size)
 clear Dt PN HB1
 clear hsz
 clear h hb
 have OO:=aj (SI.out.lt)
 obtain ⟨sU,sS,sQ,sP,sO,sN,sM,sK⟩:=SI.out.fV rfl
 go_wp2_with fail
 refine (wH Gc.out YO.out).mono ?_
 intro e w3 h
 obtain ⟨us,rfl,hu,hb⟩:=bX h
 obtain ⟨aY03,cY03,aY13,cY13,aY23,cY23,aY33,cY33,aY43,cY43,aY53,cY53,rfl,hu⟩:=wD hu
 clear sU sS sQ sP sO sN sM sK
 have PY_3:=aj (SI.out.call hb)
 have HY_3:=aj (zM bS YO.out hb)
 have HB3:=aj (HB2.out.trans ((hb).mono HB2.out.size))
 have HZ3:=aj ((hb).size)
 clear SI YO HB2
 have NY_3:=aj (pR hu)
 clear hu
 clear h hb
 go_wp2_with fail
 refine (Wi Gc.out (NY_3.out.rd bS)).mono ?_
 intro e w4 h
 rw [Xv.out] at h
 obtain ⟨us,rfl,hu,hb⟩:=bX h
 obtain ⟨Yg,XM,Yd,XJ,Ya,XG,X4,XD,XW,XA,XT,Xx,rfl,hu⟩:=nO hu
 have PY_4:=aj (PY_3.out.call hb)
 have HY_4:=aj (zM bS HY_3.out hb)
 have NY_4:=aj (NY_3.out.mv bS hb)
 have jU:=aj (HB3.out.trans ((hb).mono HB3.out.size))
 have uZ:=aj ((hb).size)
 clear PY_3 HY_3 NY_3 HB3
 have Yw_4:=aj (pR hu)
 have HSw:=aj (fun k (hk:Rg w3.heap.size w4.heap.size k)=>hk)
 clear hu
 clear h hb
 clear NY_4
 have iE:Below (w4).heap.size (w4) (w4.alloc (.cells #[.slice Yg RB.length XM,.slice Yd RA.length XJ,.slice Ya Rz.length XG,.int .i64 Ru,.slice X4 Ry.length XD,.slice XW Rx.length XA,.slice XT Rv.length Xx,.int .i64 Rt,.int .i64 Rs,.int .i64 Rq] 46)):=(aU _ _).alloc (bK _) _
 have YM:=aj (PY_4.out.call iE)
 have YN:=aj (zM bS HY_4.out iE)
 have Yw_5:=aj (Yw_4.out.mv aX iE)
 have ny:=aj (jU.out.trans ((iE).mono jU.out.size))
 have Ms:=aj ((iE).size)
 clear PY_4 HY_4 Yw_4 jU
 have Bw_5:=aN.new (w4) 46 #[.slice Yg RB.length XM,.slice Yd RA.length XJ,.slice Ya Rz.length XG,.int .i64 Ru,.slice X4 Ry.length XD,.slice XW Rx.length XA,.slice XT Rv.length Xx,.int .i64 Rt,.int .i64 Rs,.int .i64 Rq]
 have Ux:=aj Bw_5
 clear Bw_5 iE
 have Mr:=aj ((show (w4.alloc (.cells #[.slice Yg RB.length XM,.slice Yd RA.length XJ,.slice Ya Rz.length XG,.int .i64 Ru,.slice X4 Ry.length XD,.slice XW Rx.length XA,.slice XT Rv.length Xx,.int .i64 Rt,.int .i64 Rs,.int .i64 Rq] 46)).heap.size=w4.heap.size+1 by simp))
 obtain ⟨wz5,zZ⟩:∃ w,w=w4.alloc (.cells #[.slice Yg RB.length XM,.slice Yd RA.length XJ,.slice Ya Rz.length XG,.int .i64 Ru,.slice X4 Ry.length XD,.slice XW Rx.length XA,.slice XT Rv.length Xx,.int .i64 Rt,.int .i64 Rs,.int .i64 Rq] 46):=⟨_,rfl⟩
 rw [←zZ] at YM Ux YN Yw_5 ny Ms Mr
 obtain ⟨sU,sS,sQ,sP,sO,sN,sM,sK⟩:=YM.out.fV rfl
 have NC:=sU
 rw [zZ] at NC
 have NA:=sS
 rw [zZ] at NA
 have Nz:=sQ
 rw [zZ] at Nz
 have Ny:=sP
 rw [zZ] at Ny
 have Nw:=sO
 rw [zZ] at Nw
 have Nv:=sN
 rw [zZ] at Nv
 have Nu:=sM
 rw [zZ] at Nu
 have Nt:=sK
 rw [zZ] at Nt
 go_wp2_with fail
 rw [←zZ]
 clear zZ
 refine (wH Gc.out YN.out).mono ?_
 intro e w6 h
 obtain ⟨us,rfl,hu,hb⟩:=bX h
 obtain ⟨YI,YB,YH,YA,YG,Yz,YF,Yy,YE,Yx,YC,Yw,rfl,hu⟩:=wD hu
 clear sU sS sQ sP sO sN sM sK NC NA Nz Ny Nw Nv Nu Nt
 have PY_6:=aj (YM.out.call hb)
 have Bw_6:=aj (Ux.out.call hb)
 have HY_6:=aj (zM bS YN.out hb)
 have Yw_6:=aj (Yw_5.out.mv aX hb)
 have wU:=aj (ny.out.trans ((hb).mono ny.out.size))
 have OL:=aj ((hb).size)
 clear YM Ux YN Yw_5 ny
 have X_6:=aj (pR hu)
 have HSX:=aj (fun k (hk:Rg wz5.heap.size w6.heap.size k)=>hk)
 clear hu
 clear h hb
 have iE:Below (w6).heap.size (w6) (w6.alloc (.cells #[.slice YI Mk.length YB,.slice YH Mj.length YA,.slice YG Mi.length Yz,.int .i64 Me,.slice YF Mh.length Yy,.slice YE Mg.length Yx,.slice YC Mf.length Yw,.int .i64 Md] 44)):=(aU _ _).alloc (bK _) _
 have PY_7:=aj (PY_6.out.call iE)
 have Bw_7:=aj (Bw_6.out.call iE)
 have HY_7:=aj (zM bS HY_6.out iE)
 have Yw_7:=aj (Yw_6.out.mv aX iE)
 have X_7:=aj (X_6.out.mv bS iE)
 have rG:=aj (wU.out.trans ((iE).mono wU.out.size))
 have Mq:=aj ((iE).size)
 clear PY_6 Bw_6 HY_6 Yw_6 X_6 wU
 have BX_7:=aN.new (w6) 44 #[.slice YI Mk.length YB,.slice YH Mj.length YA,.slice YG Mi.length Yz,.int .i64 Me,.slice YF Mh.length Yy,.slice YE Mg.length Yx,.slice YC Mf.length Yw,.int .i64 Md]
 have Ng:=aj BX_7
 clear BX_7 iE
 have Ml:=aj ((show (w6.alloc (.cells #[.slice YI Mk.length YB,.slice YH Mj.length YA,.slice YG Mi.length Yz,.int .i64 Me,.slice YF Mh.length Yy,.slice YE Mg.length Yx,.slice YC Mf.length Yw,.int .i64 Md] 44)).heap.size=w6.heap.size+1 by simp))
 obtain ⟨wz7,zY⟩:∃ w,w=w6.alloc (.cells #[.slice YI Mk.length YB,.slice YH Mj.length YA,.slice YG Mi.length Yz,.int .i64 Me,.slice YF Mh.length Yy,.slice YE Mg.length Yx,.slice YC Mf.length Yw,.int .i64 Md] 44):=⟨_,rfl⟩
 rw [←zY] at PY_7 Bw_7 Ng HY_7 Yw_7 X_7 rG Mq Ml
 obtain ⟨MJ,MI,MH,MG,MF,ME,MC,MB⟩:=Ng.out.fV rfl
 have Oj:=MJ
 rw [zY] at Oj
 have Oi:=MI
 rw [zY] at Oi
 have Oh:=MH
 rw [zY] at Oh
 have Og:=MG
 rw [zY] at Og
 have Oe:=MF
 rw [zY] at Oe
 have Od:=ME
 rw [zY] at Od
 have Oc:=MC
 rw [zY] at Oc
 have Ob:=MB
 rw [zY] at Ob
 go_wp2_with fail
 rw [←zY]
 clear zY
 refine (Hz (aa4.out.mv rG.out) hM0 hM1 Gc.out (X_7.out.rd bS)).mono ?_
 intro e w8 h
 rw [Xv.out] at h
 obtain ⟨us,rfl,hu,hb⟩:=bX h
 obtain ⟨Yi,XP,Yf,XL,Yc,XI,X8,XF,XZ,XC,XV,Xz,rfl,hu⟩:=nO hu
 clear MJ MI MH MG MF ME MC MB Oj Oi Oh Og Oe Od Oc Ob
 have PY_8:=aj (PY_7.out.call hb)
 have Bw_8:=aj (Bw_7.out.call hb)
 have BX_8:=aj (Ng.out.call hb)
 have HY_8:=aj (zM bS HY_7.out hb)
 have Yw_8:=aj (Yw_7.out.mv aX hb)
 have X_8:=aj (X_7.out.mv bS hb)
 have OW:=aj (rG.out.trans ((hb).mono rG.out.size))
 have xB:=aj ((hb).size)
 clear PY_7 Bw_7 Ng HY_7 Yw_7 X_7 rG
 have Yg_8:=aj (pR hu)
 have HSg:=aj (fun k (hk:Rg wz7.heap.size w8.heap.size k)=>hk)
 clear hu
 clear h hb
 have iE:Below (w8).heap.size (w8) (w8.alloc (.cells #[.slice Yi RB.length XP,.slice Yf RA.length XL,.slice Yc Rz.length XI,.int .i64 Ru,.slice X8 Ry.length XF,.slice XZ Rx.length XC,.slice XV Rv.length Xz,.int .i64 Rt,.int .i64 Rs,.int .i64 Rq] 46)):=(aU _ _).alloc (bK _) _
 have PY_9:=aj (PY_8.out.call iE)
 have YU:=aj (Bw_8.out.call iE)
 have BX_9:=aj (BX_8.out.call iE)
 have HY_9:=aj (zM bS HY_8.out iE)
 have YJ:=aj (Yw_8.out.mv aX iE)
 have X_9:=aj (X_8.out.mv bS iE)
 have YK:=aj (Yg_8.out.mv aX iE)
 have nu:=aj (OW.out.trans ((iE).mono OW.out.size))
 have vD:=aj ((iE).size)
 clear PY_8 Bw_8 BX_8 HY_8 Yw_8 X_8 Yg_8 OW
 have Bg_9:=aN.new (w8) 46 #[.slice Yi RB.length XP,.slice Yf RA.length XL,.slice Yc Rz.length XI,.int .i64 Ru,.slice X8 Ry.length XF,.slice XZ Rx.length XC,.slice XV Rv.length Xz,.int .i64 Rt,.int .i64 Rs,.int .i64 Rq]
 have Nf:=aj Bg_9
 clear Bg_9 iE
 have vC:=aj ((show (w8.alloc (.cells #[.slice Yi RB.length XP,.slice Yf RA.length XL,.slice Yc Rz.length XI,.int .i64 Ru,.slice X8 Ry.length XF,.slice XZ Rx.length XC,.slice XV Rv.length Xz,.int .i64 Rt,.int .i64 Rs,.int .i64 Rq] 46)).heap.size=w8.heap.size+1 by simp))
 obtain ⟨wz9,lW⟩:∃ w,w=w8.alloc (.cells #[.slice Yi RB.length XP,.slice Yf RA.length XL,.slice Yc Rz.length XI,.int .i64 Ru,.slice X8 Ry.length XF,.slice XZ Rx.length XC,.slice XV Rv.length Xz,.int .i64 Rt,.int .i64 Rs,.int .i64 Rq] 46):=⟨_,rfl⟩
 rw [←lW] at PY_9 YU BX_9 Nf HY_9 YJ X_9 YK nu vD vC
 obtain ⟨tK,tJ,tH,tF,tC,tu,tq,sZ,sW,sV⟩:=Nf.out.jk rfl
 obtain ⟨Aw,Av,Au,Ar,Aq,Ap,Ao,Am,Al,Ak⟩:=YU.out.jk rfl
 have Oa:=tK
 rw [lW] at Oa
 have N9:=tJ
 rw [lW] at N9
 have N8:=tH
 rw [lW] at N8
 have N7:=tF
 rw [lW] at N7
 have NY:=tC
 rw [lW] at NY
 have NW:=tu
 rw [lW] at NW
 have NV:=tq
 rw [lW] at NV
 have NU:=sZ
 rw [lW] at NU
 have NT:=sW
 rw [lW] at NT
 have NS:=sV
 rw [lW] at NS
 have vY:=Aw
 rw [lW] at vY
 have vX:=Av
 rw [lW] at vX
 have vW:=Au
 rw [lW] at vW
 have vV:=Ar
 rw [lW] at vV
 have vU:=Aq
 rw [lW] at vU
 have vT:=Ap
 rw [lW] at vT
 have vS:=Ao
 rw [lW] at vS
 have vR:=Am
 rw [lW] at vR
 have vQ:=Al
 rw [lW] at vQ
 have vP:=Ak
 rw [lW] at vP
 go_wp2_with fail
 rw [←lW]
 clear lW
 refine (qX (YK.out.rd aX) (YJ.out.rd aX)).mono ?_
 intro e w10 h
 obtain ⟨rfl,hb⟩:=bT h
 clear tK tJ tH tF tC tu tq sZ sW sV Aw Av Au Ar Aq Ap Ao Am Al Ak Oa N9 N8 N7 NY NW NV NU NT NS vY vX vW vV vU vT vS vR vQ vP
 have tL:=aj (PY_9.out.call hb)
 have abe:=aj (YU.out.call hb)
 have tQ:=aj (BX_9.out.call hb)
 have abm:=aj (Nf.out.call hb)
 have aa1:=aj (zM bS HY_9.out hb)
 have adP:=aj (YJ.out.mv aX hb)
 have X_10:=aj (X_9.out.mv bS hb)
 have adR:=aj (YK.out.mv aX hb)
 have kN:=aj (nu.out.trans ((hb).mono nu.out.size))
 have xA:=aj ((hb).size)
 clear PY_9 YU BX_9 Nf HY_9 YJ X_9 YK nu
 clear h hb
 go_wp2_with fail
 refine dW (S:=(fun V=>Below (w10).heap.size (w10) V)) (by kernel_rfl) ((aU _ _).drew) (fun ah=>?_)
 refine tk 0 ah ?_ (hy:=fun w hSw=>by (try dsimp only at hSw);have k0:=tQ.out.hat hSw 0 rfl;have k1:=tQ.out.hat hSw 1 rfl;have k2:=tQ.out.hat hSw 2 rfl;have k3:=tQ.out.hat hSw 3 rfl;have k4:=tQ.out.hat hSw 4 rfl;have k5:=tQ.out.hat hSw 5 rfl;have k6:=tQ.out.hat hSw 6 rfl;have k7:=tQ.out.hat hSw 7 rfl;clear hSw;go_simp;try with_reducible rfl)
 refine tk 1 ah ?_ (hy:=fun w hSw=>by (try dsimp only at hSw);have k0:=tL.out.hat hSw 0 rfl;have k1:=tL.out.hat hSw 1 rfl;have k2:=tL.out.hat hSw 2 rfl;have k3:=tL.out.hat hSw 3 rfl;have k4:=tL.out.hat hSw 4 rfl;have k5:=tL.out.hat hSw 5 rfl;have k6:=tL.out.hat hSw 6 rfl;have k7:=tL.out.hat hSw 7 rfl;clear hSw;go_simp;try with_reducible rfl)
 refine cZ 2 (fun K hK=>?_)
 go_simp
 go_at_call 9
 refine (wH Gc.out (zM bS aa1.out ah)).mono ?_
 intro e w1001 h
 obtain ⟨us,rfl,hu,hb⟩:=bX h
 obtain ⟨aed,ad7,aec,ad6,aeb,ad5,aea,ad4,ad9,ad3,ad8,ad2,rfl,hu⟩:=wD hu
 have NZ:=aj (pR hu)
 clear h hu
 refine hK.out _ _ (ah.trans (hb.mono ah.size)) (fun ah=>?_)
 clear hK K hb
 refine cZ 3 (fun K hK=>?_)
 go_simp
 go_at_call 13
 refine (Wm (zM bS (X_10.out.rd bS) ah) (NZ.out.rd bS)).mono ?_
 intro e w1002 h
 obtain ⟨rfl,hb⟩:=bT h
 clear h
 refine hK.out _ _ (ah.trans (hb.mono ah.size)) (fun ah=>?_)
 clear hK K hb
 refine tk 4 ah ?_
 refine dQ ?_
 have HF:=aj ah
 clear ah
 have hF:=HF.out
 have aaV:=aj (tL.out.call hF)
 have abd:=aj (abe.out.call hF)
 have UG:=aj (tQ.out.call hF)
 have abl:=aj (abm.out.call hF)
 have HY_11:=aj (zM bS aa1.out hF)
 have adO:=aj (adP.out.mv aX hF)
 have X_11:=aj (X_10.out.mv bS hF)
 have adQ:=aj (adR.out.mv aX hF)
 have HB11:=aj (kN.out.trans ((hF).mono kN.out.size))
 have xw:=aj ((hF).size)
 clear tL abe tQ abm kN
 clear HF hF NZ
 obtain ⟨MJ,MI,MH,MG,MF,ME,MC,MB⟩:=UG.out.fV rfl
 go_wp2_with fail
 refine (Lv (by omega) (by have h1:=HSAY.out;omega) X_11.out.2 X_11.out.1).mono ?_
 intro e wm h
 obtain ⟨dM,y1,rfl,hmv,hzz,ho,hoff⟩:=BI h
 clear MJ MI MH MG MF ME MC MB
 have gU:=aj (HB11.out.trans (hoff.below HB11.out.size (fun k hk=>by have zk:=HZ2.out;have zf:=HZ3.out;have ze:=uZ.out;have za:=Ms.out;have yZ:=Mr.out;have yY:=OL.out;have yX:=Mq.out;have yV:=Ml.out;have qx:=xB.out;have qw:=vD.out;have qp:=vC.out;have qo:=xA.out;have qm:=xw.out;have zl:=OO.out;have rX:=HSX.out _ hk;try unfold Rg at rX;omega)))
 have aaU:=aj (aaV.out.off hoff aaV.out.lt (fun hk=>by have zk:=HZ2.out;have zf:=HZ3.out;have ze:=uZ.out;have za:=Ms.out;have yZ:=Mr.out;have yY:=OL.out;have yX:=Mq.out;have yV:=Ml.out;have qx:=xB.out;have qw:=vD.out;have qp:=vC.out;have qo:=xA.out;have qm:=xw.out;have zl:=OO.out;have rX:=HSX.out _ hk;try unfold Rg at rX;omega))
 have Uy:=aj (abd.out.off hoff abd.out.lt (fun hk=>by have zk:=HZ2.out;have zf:=HZ3.out;have ze:=uZ.out;have za:=Ms.out;have yZ:=Mr.out;have yY:=OL.out;have yX:=Mq.out;have yV:=Ml.out;have qx:=xB.out;have qw:=vD.out;have qp:=vC.out;have qo:=xA.out;have qm:=xw.out;have zl:=OO.out;have rX:=HSX.out _ hk;try unfold Rg at rX;omega))
 have abu:=aj (UG.out.off hoff UG.out.lt (fun hk=>by have zk:=HZ2.out;have zf:=HZ3.out;have ze:=uZ.out;have za:=Ms.out;have yZ:=Mr.out;have yY:=OL.out;have yX:=Mq.out;have yV:=Ml.out;have qx:=xB.out;have qw:=vD.out;have qp:=vC.out;have qo:=xA.out;have qm:=xw.out;have zl:=OO.out;have rX:=HSX.out _ hk;try unfold Rg at rX;omega))
 have UE:=aj (abl.out.off hoff abl.out.lt (fun hk=>by have zk:=HZ2.out;have zf:=HZ3.out;have ze:=uZ.out;have za:=Ms.out;have yZ:=Mr.out;have yY:=OL.out;have yX:=Mq.out;have yV:=Ml.out;have qx:=xB.out;have qw:=vD.out;have qp:=vC.out;have qo:=xA.out;have qm:=xw.out;have zl:=OO.out;have rX:=HSX.out _ hk;try unfold Rg at rX;omega))
 have aa0:=aj (zM bS HY0.out gU.out)
 have TW:=aj (adO.out.off aX hoff (fun k hk hk2=>by have zk:=HZ2.out;have zf:=HZ3.out;have ze:=uZ.out;have za:=Ms.out;have yZ:=Mr.out;have yY:=OL.out;have yX:=Mq.out;have yV:=Ml.out;have qx:=xB.out;have qw:=vD.out;have qp:=vC.out;have qo:=xA.out;have qm:=xw.out;have zl:=OO.out;have rX:=HSX.out k hk2;try unfold Rg at rX;have rw:=HSw.out k hk;try unfold Rg at rw;omega))
 have Uc:=aj (adQ.out.off aX hoff (fun k hk hk2=>by have zk:=HZ2.out;have zf:=HZ3.out;have ze:=uZ.out;have za:=Ms.out;have yZ:=Mr.out;have yY:=OL.out;have yX:=Mq.out;have yV:=Ml.out;have qx:=xB.out;have qw:=vD.out;have qp:=vC.out;have qo:=xA.out;have qm:=xw.out;have zl:=OO.out;have rX:=HSX.out k hk2;try unfold Rg at rX;have rg:=HSg.out k hk;try unfold Rg at rg;omega))
 have hkn:decide (y1<0)=false:=dU (by omega)
 have PL:=aj (hoff.size)
 clear h hmv hzz ho hoff
 obtain ⟨tK,tJ,tH,tF,tC,tu,tq,sZ,sW,sV⟩:=UE.out.jk rfl
 obtain ⟨Aw,Av,Au,Ar,Aq,Ap,Ao,Am,Al,Ak⟩:=Uy.out.jk rfl
 go_wp2_with fail
 refine (qX (Uc.out.rd aX) (TW.out.rd aX)).mono ?_
 intro e w13 h
 obtain ⟨rfl,hb⟩:=bT h
 clear tK tJ tH tF tC tu tq sZ sW sV Aw Av Au Ar Aq Ap Ao Am Al Ak
 have aaT:=aj (aaU.out.call hb)
 have abb:=aj (Uy.out.call hb)
 have abt:=aj (abu.out.call hb)
 have UD:=aj (UE.out.call hb)
 have HY_13:=aj (zM bS aa0.out hb)
 have adN:=aj (TW.out.mv aX hb)
 have Ub:=aj (Uc.out.mv aX hb)
 have HB13:=aj (gU.out.trans ((hb).mono gU.out.size))
 have PK:=aj ((hb).size)
 clear aaU Uy abu UE aa0 TW Uc gU
 clear h hb
 clear hkn
 obtain ⟨tK,tJ,tH,tF,tC,tu,tq,sZ,sW,sV⟩:=UD.out.jk rfl
 go_wp2_with fail
 refine (Dc (by omega) (by have h1:=HSM.out;omega) Ub.out.2 Ub.out.1).mono ?_
 intro e wn h
 obtain ⟨dN,zN,rfl,hmv,hzz,ho,hoff⟩:=BI h
 clear tK tJ tH tF tC tu tq sZ sW sV
 have YS:=aj (HB13.out.trans (hoff.below HB13.out.size (fun k hk=>by have zk:=HZ2.out;have zf:=HZ3.out;have ze:=uZ.out;have za:=Ms.out;have yZ:=Mr.out;have yY:=OL.out;have yX:=Mq.out;have yV:=Ml.out;have qx:=xB.out;have qw:=vD.out;have qp:=vC.out;have qo:=xA.out;have qm:=xw.out;have Gh:=PL.out;have Gg:=PK.out;have zl:=OO.out;have rg:=HSg.out _ hk;try unfold Rg at rg;omega)))
 have aaS:=aj (aaT.out.off hoff aaT.out.lt (fun hk=>by have zk:=HZ2.out;have zf:=HZ3.out;have ze:=uZ.out;have za:=Ms.out;have yZ:=Mr.out;have yY:=OL.out;have yX:=Mq.out;have yV:=Ml.out;have qx:=xB.out;have qw:=vD.out;have qp:=vC.out;have qo:=xA.out;have qm:=xw.out;have Gh:=PL.out;have Gg:=PK.out;have zl:=OO.out;have rg:=HSg.out _ hk;try unfold Rg at rg;omega))
 have aa9:=aj (abb.out.off hoff abb.out.lt (fun hk=>by have zk:=HZ2.out;have zf:=HZ3.out;have ze:=uZ.out;have za:=Ms.out;have yZ:=Mr.out;have yY:=OL.out;have yX:=Mq.out;have yV:=Ml.out;have qx:=xB.out;have qw:=vD.out;have qp:=vC.out;have qo:=xA.out;have qm:=xw.out;have Gh:=PL.out;have Gg:=PK.out;have zl:=OO.out;have rg:=HSg.out _ hk;try unfold Rg at rg;omega))
 have abr:=aj (abt.out.off hoff abt.out.lt (fun hk=>by have zk:=HZ2.out;have zf:=HZ3.out;have ze:=uZ.out;have za:=Ms.out;have yZ:=Mr.out;have yY:=OL.out;have yX:=Mq.out;have yV:=Ml.out;have qx:=xB.out;have qw:=vD.out;have qp:=vC.out;have qo:=xA.out;have qm:=xw.out;have Gh:=PL.out;have Gg:=PK.out;have zl:=OO.out;have rg:=HSg.out _ hk;try unfold Rg at rg;omega))
 have UC:=aj (UD.out.off hoff UD.out.lt (fun hk=>by have zk:=HZ2.out;have zf:=HZ3.out;have ze:=uZ.out;have za:=Ms.out;have yZ:=Mr.out;have yY:=OL.out;have yX:=Mq.out;have yV:=Ml.out;have qx:=xB.out;have qw:=vD.out;have qp:=vC.out;have qo:=xA.out;have qm:=xw.out;have Gh:=PL.out;have Gg:=PK.out;have zl:=OO.out;have rg:=HSg.out _ hk;try unfold Rg at rg;omega))
 have aaZ:=aj (zM bS HY0.out YS.out)
 have aaF:=aj (adN.out.off aX hoff (fun k hk hk2=>by have zk:=HZ2.out;have zf:=HZ3.out;have ze:=uZ.out;have za:=Ms.out;have yZ:=Mr.out;have yY:=OL.out;have yX:=Mq.out;have yV:=Ml.out;have qx:=xB.out;have qw:=vD.out;have qp:=vC.out;have qo:=xA.out;have qm:=xw.out;have Gh:=PL.out;have Gg:=PK.out;have zl:=OO.out;have rg:=HSg.out k hk2;try unfold Rg at rg;have rw:=HSw.out k hk;try unfold Rg at rw;omega))
 have Ua:=aj (show Xc cu wn _ dN _ from ⟨ho,fun k hk=>bV (Ub.out.2 k hk) hoff.size⟩)
 have HMV:=aj hmv
 have hzn:decide (zN<0)=false:=dU (by omega)
 have hze:(zN != zN)=false:=by simp
 have hzb:zN≤4611686018427387904:=by have:=HSM.out;omega
 have HZ17:=aj (hoff.size)
 clear h hmv hzz ho hoff
 obtain ⟨tK,tJ,tH,tF,tC,tu,tq,sZ,sW,sV⟩:=UC.out.jk rfl
 go_wp2_with fail
 refine (ug (by omega) hzb HMV.out (Ua.out.rd aX)).mono ?_
 intro e w15 h
 obtain ⟨rfl,hb⟩:=eT h
 clear tK tJ tH tF tC tu tq sZ sW sV
 have Ue:=aj (aaS.out.call hb)
 have aa8:=aj (aa9.out.call hb)
 have abq:=aj (abr.out.call hb)
 have abk:=aj (UC.out.call hb)
 have Uk:=aj (zM bS aaZ.out hb)
 have aaE:=aj (aaF.out.mv aX hb)
 have aaK:=aj (Ua.out.mv aX hb)
 have HB15:=aj (YS.out.trans ((hb).mono YS.out.size))
 have HZ18:=aj ((hb).size)
 clear aaS aa9 abr UC aaZ aaF Ua YS
 clear h hb
 obtain ⟨sU,sS,sQ,sP,sO,sN,sM,sK⟩:=Ue.out.fV rfl
 go_wp2_with fail
 refine (wH Gc.out Uk.out).mono ?_
 intro e w16 h
 obtain ⟨us,rfl,hu,hb⟩:=bX h
 obtain ⟨aY016,cY016,aY116,cY116,aY216,cY216,aY316,cY316,aY416,cY416,aY516,cY516,rfl,hu⟩:=wD hu
 clear sU sS sQ sP sO sN sM sK
 have aaR:=aj (Ue.out.call hb)
 have aa7:=aj (aa8.out.call hb)
 have abp:=aj (abq.out.call hb)
 have abj:=aj (abk.out.call hb)
 have aaY:=aj (zM bS Uk.out hb)
 have aaD:=aj (aaE.out.mv aX hb)
 have aaJ:=aj (aaK.out.mv aX hb)
 have YR:=aj (HB15.out.trans ((hb).mono HB15.out.size))
 have HZ19:=aj ((hb).size)
 clear Ue aa8 abq abk Uk aaE aaK HB15
 have Uf:=aj (pR hu)
 clear hu
 clear h hb
 go_wp2_with fail
 refine (Hz (aa4.out.mv YR.out) hM0 hM1 Gc.out (Uf.out.rd bS)).mono ?_
 intro e ZY h
 rw [Xv.out] at h
 obtain ⟨us,rfl,hu,hb⟩:=bX h
 obtain ⟨Yh,XO,Ye,XK,Yb,XH,X7,XE,XY,XB,XU,Xy,rfl,hu⟩:=nO hu
 have aaQ:=aj (aaR.out.call hb)
 have aa6:=aj (aa7.out.call hb)
 have abo:=aj (abp.out.call hb)
 have abh:=aj (abj.out.call hb)
 have aaX:=aj (zM bS aaY.out hb)
 have aaC:=aj (aaD.out.mv aX hb)
 have aaI:=aj (aaJ.out.mv aX hb)
 have adS:=aj (Uf.out.mv bS hb)
 have HB17:=aj (YR.out.trans ((hb).mono YR.out.size))
 have HZ20:=aj ((hb).size)
 clear aaR aa7 abp abj aaY aaD aaJ Uf YR
 have aaH:=aj (pR hu)
 have HSh:=aj (fun k (hk:Rg w16.heap.size ZY.heap.size k)=>hk)
 clear hu
 clear h hb
 clear adS
 have iE:Below (ZY).heap.size (ZY) (ZY.alloc (.cells #[.slice Yh RB.length XO,.slice Ye RA.length XK,.slice Yb Rz.length XH,.int .i64 Ru,.slice X7 Ry.length XE,.slice XY Rx.length XB,.slice XU Rv.length Xy,.int .i64 Rt,.int .i64 Rs,.int .i64 Rq] 46)):=(aU _ _).alloc (bK _) _
 have Ud:=aj (aaQ.out.call iE)
 have Nc:=aj (aa6.out.call iE)
 have UF:=aj (abo.out.call iE)
 have UA:=aj (abh.out.call iE)
 have Uj:=aj (zM bS aaX.out iE)
 have MQ:=aj (aaC.out.mv aX iE)
 have T9:=aj (aaI.out.mv aX iE)
 have MR:=aj (aaH.out.mv aX iE)
 have YQ:=aj (HB17.out.trans ((iE).mono HB17.out.size))
 have HZ21:=aj ((iE).size)
 clear aaQ aa6 abo abh aaX aaC aaI aaH HB17
 have abg:=aN.new (ZY) 46 #[.slice Yh RB.length XO,.slice Ye RA.length XK,.slice Yb Rz.length XH,.int .i64 Ru,.slice X7 Ry.length XE,.slice XY Rx.length XB,.slice XU Rv.length Xy,.int .i64 Rt,.int .i64 Rs,.int .i64 Rq]
 have EG:=aj abg
 clear abg iE
 have HZ22:=aj ((show (ZY.alloc (.cells #[.slice Yh RB.length XO,.slice Ye RA.length XK,.slice Yb Rz.length XH,.int .i64 Ru,.slice X7 Ry.length XE,.slice XY Rx.length XB,.slice XU Rv.length Xy,.int .i64 Rt,.int .i64 Rs,.int .i64 Rq] 46)).heap.size=ZY.heap.size+1 by simp))
 obtain ⟨wz18,ji⟩:∃ w,w=ZY.alloc (.cells #[.slice Yh RB.length XO,.slice Ye RA.length XK,.slice Yb Rz.length XH,.int .i64 Ru,.slice X7 Ry.length XE,.slice XY Rx.length XB,.slice XU Rv.length Xy,.int .i64 Rt,.int .i64 Rs,.int .i64 Rq] 46):=⟨_,rfl⟩
 rw [←ji] at Ud Nc UF UA EG Uj MQ T9 MR YQ HZ21 HZ22
 obtain ⟨aaq,aap,aao,aan,aam,aal,aak,aaj,aai,aah⟩:=EG.out.jk rfl
 obtain ⟨Aw,Av,Au,Ar,Aq,Ap,Ao,Am,Al,Ak⟩:=Nc.out.jk rfl
 have NR:=aaq
 rw [ji] at NR
 have NQ:=aap
 rw [ji] at NQ
 have NP:=aao
 rw [ji] at NP
 have NM:=aan
 rw [ji] at NM
 have NK:=aam
 rw [ji] at NK
 have NJ:=aal
 rw [ji] at NJ
 have NI:=aak
 rw [ji] at NI
 have NH:=aaj
 rw [ji] at NH
 have NG:=aai
 rw [ji] at NG
 have ND:=aah
 rw [ji] at ND
 have vY:=Aw
 rw [ji] at vY
 have vX:=Av
 rw [ji] at vX
 have vW:=Au
 rw [ji] at vW
 have vV:=Ar
 rw [ji] at vV
 have vU:=Aq
 rw [ji] at vU
 have vT:=Ap
 rw [ji] at vT
 have vS:=Ao
 rw [ji] at vS
 have vR:=Am
 rw [ji] at vR
 have vQ:=Al
 rw [ji] at vQ
 have vP:=Ak
 rw [ji] at vP
 go_wp2_with fail
 rw [←ji]
 clear ji
 refine (qX (MR.out.rd aX) (MQ.out.rd aX)).mono ?_
 intro e w19 h
 obtain ⟨rfl,hb⟩:=bT h
 clear aaq aap aao aan aam aal aak aaj aai aah Aw Av Au Ar Aq Ap Ao Am Al Ak NR NQ NP NM NK NJ NI NH NG ND vY vX vW vV vU vT vS vR vQ vP
 have aaP:=aj (Ud.out.call hb)
 have aa5:=aj (Nc.out.call hb)
 have abn:=aj (UF.out.call hb)
 have Uz:=aj (UA.out.call hb)
 have abf:=aj (EG.out.call hb)
 have aaW:=aj (zM bS Uj.out hb)
 have aaB:=aj (MQ.out.mv aX hb)
 have TY:=aj (T9.out.mv aX hb)
 have aaG:=aj (MR.out.mv aX hb)
 have HB19:=aj (YQ.out.trans ((hb).mono YQ.out.size))
 have HZ23:=aj ((hb).size)
 clear Ud Nc UF UA EG Uj MQ T9 MR YQ
 clear h hb
 obtain ⟨tK,tJ,tH,tF,tC,tu,tq,sZ,sW,sV⟩:=Uz.out.jk rfl
 go_wp2_with fail
 refine (ug (by omega) hzb HMV.out (TY.out.rd aX)).mono ?_
 intro e w20 h
 obtain ⟨rfl,hb⟩:=eT h
 clear tK tJ tH tF tC tu tq sZ sW sV
 have PY_20:=aj (aaP.out.call hb)
 have Bw_20:=aj (aa5.out.call hb)
 have BX_20:=aj (abn.out.call hb)
 have Bg_20:=aj (Uz.out.call hb)
 have Bh_20:=aj (abf.out.call hb)
 have HY_20:=aj (zM bS aaW.out hb)
 have Yw_20:=aj (aaB.out.mv aX hb)
 have Yg_20:=aj (TY.out.mv aX hb)
 have Yh_20:=aj (aaG.out.mv aX hb)
 have HB20:=aj (HB19.out.trans ((hb).mono HB19.out.size))
 have HZ24:=aj ((hb).size)
 clear aaP aa5 abn Uz abf aaW aaB TY aaG HB19
 clear h hb
 go_wp2
 go_ret
 exact ⟨rfl,HB20.out⟩
end
end Go.Proofs.YtlhfiapfncikdaaGreatDoor.aP
