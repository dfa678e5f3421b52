import Derived.Test.YtlhfiapfncikdaaGreatDoorPU13
import Derived.Test.YtlhfiapfncikdaaGreatDoorPU19
import Derived.Test.YtlhfiapfncikdaaGreatDoorPU20
set_option linter.unusedVariables false
set_option linter.unusedSimpArgs false
set_option maxRecDepth 100000
set_option maxHeartbeats 3200000
namespace Go.Proofs.YtlhfiapfncikdaaGreatDoor.aP
section
open Go.RowKit bN bP bJ bM
theorem Fh {C:List (List av)}{P:List bq}{Q:List aV}{hf:Int}{ca pa qa:Option Addr}{cc pc qc:Nat}{N:List aO}{T:List aG}{U:List bH}{now:Int}{na ta ua:Option Addr}{nc tc uc:Nat}{W:World}(hR:iZ C)(hp:P.length≤1048576)(hq:Q.length≤1048576)(hn:N.length≤4096)(hnb:∀ x∈N,x.2.length≤1048576)(ht:T.length≤4096)(hts:(Sl aI).sz T≤1048576)(hu:U.length≤1048576)(hC:aH (Sl au) W W.heap.size C ca cc)(hP:aH aS W W.heap.size P pa pc)(hQ:aH aM W W.heap.size Q qa qc)(hN:aH aJ W W.heap.size N na nc)(hT:aH aI W W.heap.size T ta tc)(hU:aH bD W W.heap.size U ua uc) :
 Calls Tryz.prog 50 #[.agg #[.slice ca C.length cc,.slice pa P.length pc,.slice qa Q.length qc,.int .i64 hf,.slice na N.length nc,.slice ta T.length tc,.slice ua U.length uc,.int .i64 now]] W (kU bW ((C,P,Q,hf),N,T,U,now) W):=by
 have HRR:=aj hR
 have JE:=aj hC
 have FC:=aj hP
 have JB:=aj hQ
 have JD:=aj hN
 have Mw:=aj hT
 have Mv:=aj hU
 clear hR hC hP hQ hN hT hU
 obtain ⟨w0,hw0⟩:∃ w,w=(W.alloc (.cells #[.slice ca C.length cc,.slice pa P.length pc,.slice qa Q.length qc,.int .i64 hf,.slice na N.length nc,.slice ta T.length tc,.slice ua U.length uc,.int .i64 now] 44)).alloc (.cells #[.slice none 0 0,.slice none 0 0,.slice none 0 0,.int .i64 0,.slice none 0 0,.slice none 0 0,.slice none 0 0,.int .i64 0] 44):=⟨_,rfl⟩
 have hb0:Below W.heap.size W w0:=by rw [hw0];exact ((aU _ _).alloc (bK _) _).alloc (by simp) _
 have kX:aN w0 (W.heap.size) 44 #[.slice ca C.length cc,.slice pa P.length pc,.slice qa Q.length qc,.int .i64 hf,.slice na N.length nc,.slice ta T.length tc,.slice ua U.length uc,.int .i64 now]:=by
  have h9:=aN.new W 44 #[.slice ca C.length cc,.slice pa P.length pc,.slice qa Q.length qc,.int .i64 hf,.slice na N.length nc,.slice ta T.length tc,.slice ua U.length uc,.int .i64 now]
  try simp only [World.size_alloc] at h9
  rw [hw0];exact (h9.alloc _)
 have X0:=aj kX
 have qE:aN w0 (W.heap.size+1) 44 #[.slice none 0 0,.slice none 0 0,.slice none 0 0,.int .i64 0,.slice none 0 0,.slice none 0 0,.slice none 0 0,.int .i64 0]:=by
  have h9:=aN.new (W.alloc (.cells #[.slice ca C.length cc,.slice pa P.length pc,.slice qa Q.length qc,.int .i64 hf,.slice na N.length nc,.slice ta T.length tc,.slice ua U.length uc,.int .i64 now] 44)) 44 #[.slice none 0 0,.slice none 0 0,.slice none 0 0,.int .i64 0,.slice none 0 0,.slice none 0 0,.slice none 0 0,.int .i64 0]
  try simp only [World.size_alloc] at h9
  rw [hw0];exact h9
 have X1:=aj qE
 have HB0:=aj hb0
 have hz0:=hb0.size
 clear hb0  kX qE
 have hs0:w0.heap.size=W.heap.size+1+1:=by rw [hw0];simp
 go_enter Tryz.func50,Tryz.ntmps50
 go_upto_region 1 with fail
 rw [←hw0]
 clear hw0
 go_cut [] (fun wx=>∃ qD cc' pa' pc' nV nU na' wR oW oV qC qB,Hid (aN wx (W.heap.size+1) 44 #[.slice qD C.length cc',.slice pa' P.length pc',.slice nV Q.length nU,.int .i64 hf,.slice na' N.length wR,.slice oW T.length oV,.slice qC U.length qB,.int .i64 now])∧Hid (bW.ow wx (Rg W.heap.size wx.heap.size) ((C,P,Q,hf),N,T,U,now) [.slice qD C.length cc',.slice pa' P.length pc',.slice nV Q.length nU,.int .i64 hf,.slice na' N.length wR,.slice oW T.length oV,.slice qC U.length qB,.int .i64 now])∧Hid (Below W.heap.size W wx))
 case first=>
  refine dW (S:=(fun V=>Below W.heap.size W V∧aN V W.heap.size 44 #[.slice ca C.length cc,.slice pa P.length pc,.slice qa Q.length qc,.int .i64 hf,.slice na N.length nc,.slice ta T.length tc,.slice ua U.length uc,.int .i64 now]∧∃ cs,aN V (W.heap.size+1) 44 cs)) (by kernel_rfl) (⟨HB0.out.drew,X0.out.call (aU _ w0).drew,⟨_,X1.out.call (aU _ w0).drew⟩⟩) (fun ah=>?_)
  refine tk 0 ah ?_
  refine tk 1 ah ?_ (hy:=fun w hSw=>by (try dsimp only at hSw);have k0:=hSw.2.1.at_ 0 rfl;have k1:=hSw.2.1.at_ 1 rfl;have k2:=hSw.2.1.at_ 2 rfl;have k3:=hSw.2.1.at_ 3 rfl;clear hSw;go_simp;try with_reducible rfl)
  refine tk 3 ah ?_
  refine tk 4 ah ?_ (hy:=fun w hSw=>by (try dsimp only at hSw);have k0:=hSw.2.1.at_ 4 rfl;clear hSw;go_simp;try with_reducible rfl)
  refine tk 6 ah ?_
  refine tk 7 ah ?_ (hy:=fun w hSw=>by (try dsimp only at hSw);have k0:=hSw.2.1.at_ 5 rfl;clear hSw;go_simp;try with_reducible rfl)
  refine tk 10 ah ?_
  refine tk 11 ah ?_ (hy:=fun w hSw=>by (try dsimp only at hSw);have k0:=hSw.2.1.at_ 6 rfl;clear hSw;go_simp;try with_reducible rfl)
  refine tk 13 ah ?_
  refine tk 14 ah ?_ (hy:=fun w hSw=>by (try dsimp only at hSw);have k0:=hSw.2.1.at_ 7 rfl;clear hSw;go_simp;try with_reducible rfl)
  refine Z5 2 9 (fun K hK=>?_) (fun K hK=>?_)
  ·skip
   go_simp
   go_at_call 110
   refine (wQ HRR.out hp hq (aC (aY ak) JE.out ah.1) (aC aD FC.out ah.1) (aC aB JB.out ah.1)).mono ?_
   intro e w1 h
   obtain ⟨us,rfl,ho,hb⟩:=bX h
   have ho2:=ho
   obtain ⟨qD,cc',pa',pc',nV,nU,_,_,_,rfl,_⟩:=rR ho2
   have oD:=aj (show bZ.ow w1 (Rg w0.heap.size w1.heap.size) (C,P,Q,hf) [.slice qD C.length cc',.slice pa' P.length pc',.slice nV Q.length nU,.int .i64 hf] from ho)
   clear ho ho2
   have hb:Below w0.heap.size w0 w1:=(aU _ w0).drew.trans hb
   have X1:=aj (X1.out.call hb)
   have hz1:w0.heap.size≤w1.heap.size:=hb.size
   refine hK.out _ _ ⟨HB0.out.trans (hb.mono HB0.out.size),X0.out.call hb,⟨_,X1.out⟩⟩ (fun ah=>?_)
   clear hK K h hb
   refine Z5 5 9 (fun K hK=>?_) (fun K hK=>?_)
   ·skip
    go_simp
    go_at_call 109
    refine (qh hn hnb (aC aK JD.out ah.1)).mono ?_
    intro e w2 h
    obtain ⟨na',wR,rfl,ho,hb⟩:=bI h
    have rE:=aj (show bG aJ w2 (Rg w1.heap.size w2.heap.size) N na' wR from ho)
    clear ho
    have hb:Below w1.heap.size w1 w2:=hb
    have oD:=aj (bY.bU oD.out (fun q hq=>hb.block q (by have:=hq.2;omega)))
    have X1:=aj (X1.out.call hb)
    have hz2:w1.heap.size≤w2.heap.size:=hb.size
    refine hK.out _ _ ⟨ah.1.trans (hb.mono ah.1.size),ah.2.1.call hb,⟨_,X1.out⟩⟩ (fun ah=>?_)
    clear hK K h hb
    refine Z5 8 9 (fun K hK=>?_) (fun K hK=>?_)
    ·skip
     go_simp
     go_at_call 111
     refine (nS ht hts (aC ay Mw.out ah.1)).mono ?_
     intro e w3 h
     obtain ⟨oW,oV,rfl,ho,hb⟩:=bI h
     have Cw:=aj (show bG aI w3 (Rg w2.heap.size w3.heap.size) T oW oV from ho)
     clear ho
     have hb:Below w2.heap.size w2 w3:=hb
     have oD:=aj (bY.bU oD.out (fun q hq=>hb.block q (by have:=hq.2;omega)))
     have rE:=aj (rE.out.keep aK (fun q hq=>hb.block q (by have:=hq.2;omega)))
     have X1:=aj (X1.out.call hb)
     have hz3:w2.heap.size≤w3.heap.size:=hb.size
     refine hK.out _ _ ⟨ah.1.trans (hb.mono ah.1.size),ah.2.1.call hb,⟨_,X1.out⟩⟩ (fun ah=>?_)
     clear hK K h hb
     refine cZ 9 (fun K hK=>?_)
     go_simp
     obtain ⟨w4,hw⟩:∃ w,w=(w3.alloc (.cells #[] 128)):=⟨_,rfl⟩
     rw [←hw]
     have hb:Below w3.heap.size w3 w4:=by rw [hw];exact ((aU _ _).alloc (bK _) _)
     clear hw
     have h:True:=trivial
     have oD:=aj (bY.bU oD.out (fun q hq=>hb.block q (by have:=hq.2;omega)))
     have rE:=aj (rE.out.keep aK (fun q hq=>hb.block q (by have:=hq.2;omega)))
     have Cw:=aj (Cw.out.keep ay (fun q hq=>hb.block q (by have:=hq.2;omega)))
     have X1:=aj (X1.out.call hb)
     have mP:w3.heap.size≤w4.heap.size:=hb.size
     refine hK.out _ _ ⟨ah.1.trans (hb.mono ah.1.size),ah.2.1.call hb,⟨_,X1.out⟩⟩ (fun ah=>?_)
     clear hK K h hb
     refine cZ 12 (fun K hK=>?_)
     obtain ⟨qC,qB,w5,hr,ho,hb⟩:=wI ⟨w3.heap.size,0,none⟩ hu (aC aT Mv.out ah.1)
     refine iy rfl (.tmp 12) (.tmp 14) 42 rfl rfl rfl hr ?_
     have HOA:=aj ho
     clear hr ho
     have h:True:=trivial
     have oD:=aj (bY.bU oD.out (fun q hq=>hb.block q (by have:=hq.2;omega)))
     have rE:=aj (rE.out.keep aK (fun q hq=>hb.block q (by have:=hq.2;omega)))
     have Cw:=aj (Cw.out.keep ay (fun q hq=>hb.block q (by have:=hq.2;omega)))
     have X1:=aj (X1.out.call hb)
     have uo:w4.heap.size≤w5.heap.size:=hb.size
     refine hK.out _ _ ⟨ah.1.trans (hb.mono ah.1.size),ah.2.1.call hb,⟨_,X1.out⟩⟩ (fun ah=>?_)
     clear hK K h hb
     refine tk 15 ah ?_
     refine cZ 16 (fun K hK=>?_)
     obtain ⟨q0,q1,q2,q3,q4,q5,q6,q7⟩:=X1.out.fV rfl
     obtain ⟨f0,f1,f2,f3,f4,f5,f6,f7⟩:=X1.out.zm
     go_simp
     have HST:=aj (rO w5 (W.heap.size+1) (.slice qD C.length cc') (.slice pa' P.length pc') (.slice nV Q.length nU) (.int .i64 hf) (.slice na' N.length wR) (.slice oW T.length oV) (.slice qC U.length qB) (.int .i64 now))
     have rD:=aj (rQ (w:=w5) (g:=W.heap.size+1) (v0:=.slice qD C.length cc') (v1:=.slice pa' P.length pc') (v2:=.slice nV Q.length nU) (v3:=.int .i64 hf) (v4:=.slice na' N.length wR) (v5:=.slice oW T.length oV) (v6:=.slice qC U.length qB) (v7:=.int .i64 now) X1.out)
     refine hK.out _ _ ⟨jA ah.1 HST.out (fun k hk=>by rw [hk];omega) ah.1.size,aN.off ah.2.1 HST.out ah.2.1.lt (by omega),⟨_,rD.out⟩⟩ (fun ah=>?_)
     clear hK K q0 f0 q1 f1 q2 f2 q3 f3 q4 f4 q5 f5 q6 f6 q7 f7
     refine dQ ?_
     have uw:=aj ah.1
     clear ah
     go_wp2_with fail
     go_meet
     exact ⟨_,_,_,_,_,_,_,_,_,_,_,_,rD,aj (rJ (b:=W.heap.size+1) (c0:=w0.heap.size) (c1:=w1.heap.size) (n0:=w1.heap.size) (n1:=w2.heap.size) (t0:=w2.heap.size) (t1:=w3.heap.size) (u0:=w4.heap.size) (u1:=w5.heap.size) (by omega) HST.out oD.out rE.out Cw.out HOA.out),uw⟩
    ·skip
     go_simp
     obtain ⟨w3,hw⟩:∃ w,w=(w2.alloc (.cells #[] 128)):=⟨_,rfl⟩
     rw [←hw]
     have hb:Below w2.heap.size w2 w3:=by rw [hw];exact ((aU _ _).alloc (bK _) _)
     clear hw
     have h:True:=trivial
     have oD:=aj (bY.bU oD.out (fun q hq=>hb.block q (by have:=hq.2;omega)))
     have rE:=aj (rE.out.keep aK (fun q hq=>hb.block q (by have:=hq.2;omega)))
     have X1:=aj (X1.out.call hb)
     have hz3:w2.heap.size≤w3.heap.size:=hb.size
     refine hK.out _ _ ⟨ah.1.trans (hb.mono ah.1.size),ah.2.1.call hb,⟨_,X1.out⟩⟩ (fun ah=>?_)
     clear hK K h hb
     refine cZ 8 (fun K hK=>?_)
     go_simp
     go_at_call 111
     refine (nS ht hts (aC ay Mw.out ah.1)).mono ?_
     intro e w4 h
     obtain ⟨oW,oV,rfl,ho,hb⟩:=bI h
     have Cw:=aj (show bG aI w4 (Rg w3.heap.size w4.heap.size) T oW oV from ho)
     clear ho
     have hb:Below w3.heap.size w3 w4:=hb
     have oD:=aj (bY.bU oD.out (fun q hq=>hb.block q (by have:=hq.2;omega)))
     have rE:=aj (rE.out.keep aK (fun q hq=>hb.block q (by have:=hq.2;omega)))
     have X1:=aj (X1.out.call hb)
     have mP:w3.heap.size≤w4.heap.size:=hb.size
     refine hK.out _ _ ⟨ah.1.trans (hb.mono ah.1.size),ah.2.1.call hb,⟨_,X1.out⟩⟩ (fun ah=>?_)
     clear hK K h hb
     refine cZ 12 (fun K hK=>?_)
     obtain ⟨qC,qB,w5,hr,ho,hb⟩:=wI ⟨w2.heap.size,0,none⟩ hu (aC aT Mv.out ah.1)
     refine iy rfl (.tmp 12) (.tmp 14) 42 rfl rfl rfl hr ?_
     have HOA:=aj ho
     clear hr ho
     have h:True:=trivial
     have oD:=aj (bY.bU oD.out (fun q hq=>hb.block q (by have:=hq.2;omega)))
     have rE:=aj (rE.out.keep aK (fun q hq=>hb.block q (by have:=hq.2;omega)))
     have Cw:=aj (Cw.out.keep ay (fun q hq=>hb.block q (by have:=hq.2;omega)))
     have X1:=aj (X1.out.call hb)
     have uo:w4.heap.size≤w5.heap.size:=hb.size
     refine hK.out _ _ ⟨ah.1.trans (hb.mono ah.1.size),ah.2.1.call hb,⟨_,X1.out⟩⟩ (fun ah=>?_)
     clear hK K h hb
     refine tk 15 ah ?_
     refine cZ 16 (fun K hK=>?_)
     obtain ⟨q0,q1,q2,q3,q4,q5,q6,q7⟩:=X1.out.fV rfl
     obtain ⟨f0,f1,f2,f3,f4,f5,f6,f7⟩:=X1.out.zm
     go_simp
     have HST:=aj (rO w5 (W.heap.size+1) (.slice qD C.length cc') (.slice pa' P.length pc') (.slice nV Q.length nU) (.int .i64 hf) (.slice na' N.length wR) (.slice oW T.length oV) (.slice qC U.length qB) (.int .i64 now))
     have rD:=aj (rQ (w:=w5) (g:=W.heap.size+1) (v0:=.slice qD C.length cc') (v1:=.slice pa' P.length pc') (v2:=.slice nV Q.length nU) (v3:=.int .i64 hf) (v4:=.slice na' N.length wR) (v5:=.slice oW T.length oV) (v6:=.slice qC U.length qB) (v7:=.int .i64 now) X1.out)
     refine hK.out _ _ ⟨jA ah.1 HST.out (fun k hk=>by rw [hk];omega) ah.1.size,aN.off ah.2.1 HST.out ah.2.1.lt (by omega),⟨_,rD.out⟩⟩ (fun ah=>?_)
     clear hK K q0 f0 q1 f1 q2 f2 q3 f3 q4 f4 q5 f5 q6 f6 q7 f7
     refine dQ ?_
     have uw:=aj ah.1
     clear ah
     go_wp2_with fail
     go_meet
     exact ⟨_,_,_,_,_,_,_,_,_,_,_,_,rD,aj (rJ (b:=W.heap.size+1) (c0:=w0.heap.size) (c1:=w1.heap.size) (n0:=w1.heap.size) (n1:=w2.heap.size) (t0:=w3.heap.size) (t1:=w4.heap.size) (u0:=w4.heap.size) (u1:=w5.heap.size) (by omega) HST.out oD.out rE.out Cw.out HOA.out),uw⟩
   ·skip
    go_simp
    obtain ⟨w2,hw⟩:∃ w,w=(w1.alloc (.cells #[] 128)):=⟨_,rfl⟩
    rw [←hw]
    have hb:Below w1.heap.size w1 w2:=by rw [hw];exact ((aU _ _).alloc (bK _) _)
    clear hw
    have h:True:=trivial
    have oD:=aj (bY.bU oD.out (fun q hq=>hb.block q (by have:=hq.2;omega)))
    have X1:=aj (X1.out.call hb)
    have hz2:w1.heap.size≤w2.heap.size:=hb.size
    refine hK.out _ _ ⟨ah.1.trans (hb.mono ah.1.size),ah.2.1.call hb,⟨_,X1.out⟩⟩ (fun ah=>?_)
    clear hK K h hb
    refine cZ 5 (fun K hK=>?_)
    go_simp
    go_at_call 109
    refine (qh hn hnb (aC aK JD.out ah.1)).mono ?_
    intro e w3 h
    obtain ⟨na',wR,rfl,ho,hb⟩:=bI h
    have rE:=aj (show bG aJ w3 (Rg w2.heap.size w3.heap.size) N na' wR from ho)
    clear ho
    have hb:Below w2.heap.size w2 w3:=hb
    have oD:=aj (bY.bU oD.out (fun q hq=>hb.block q (by have:=hq.2;omega)))
    have X1:=aj (X1.out.call hb)
    have hz3:w2.heap.size≤w3.heap.size:=hb.size
    refine hK.out _ _ ⟨ah.1.trans (hb.mono ah.1.size),ah.2.1.call hb,⟨_,X1.out⟩⟩ (fun ah=>?_)
    clear hK K h hb
    refine cZ 8 (fun K hK=>?_)
    go_simp
    go_at_call 111
    refine (nS ht hts (aC ay Mw.out ah.1)).mono ?_
    intro e w4 h
    obtain ⟨oW,oV,rfl,ho,hb⟩:=bI h
    have Cw:=aj (show bG aI w4 (Rg w3.heap.size w4.heap.size) T oW oV from ho)
    clear ho
    have hb:Below w3.heap.size w3 w4:=hb
    have oD:=aj (bY.bU oD.out (fun q hq=>hb.block q (by have:=hq.2;omega)))
    have rE:=aj (rE.out.keep aK (fun q hq=>hb.block q (by have:=hq.2;omega)))
    have X1:=aj (X1.out.call hb)
    have mP:w3.heap.size≤w4.heap.size:=hb.size
    refine hK.out _ _ ⟨ah.1.trans (hb.mono ah.1.size),ah.2.1.call hb,⟨_,X1.out⟩⟩ (fun ah=>?_)
    clear hK K h hb
    refine cZ 12 (fun K hK=>?_)
    obtain ⟨qC,qB,w5,hr,ho,hb⟩:=wI ⟨w1.heap.size,0,none⟩ hu (aC aT Mv.out ah.1)
    refine iy rfl (.tmp 12) (.tmp 14) 42 rfl rfl rfl hr ?_
    have HOA:=aj ho
    clear hr ho
    have h:True:=trivial
    have oD:=aj (bY.bU oD.out (fun q hq=>hb.block q (by have:=hq.2;omega)))
    have rE:=aj (rE.out.keep aK (fun q hq=>hb.block q (by have:=hq.2;omega)))
    have Cw:=aj (Cw.out.keep ay (fun q hq=>hb.block q (by have:=hq.2;omega)))
    have X1:=aj (X1.out.call hb)
    have uo:w4.heap.size≤w5.heap.size:=hb.size
    refine hK.out _ _ ⟨ah.1.trans (hb.mono ah.1.size),ah.2.1.call hb,⟨_,X1.out⟩⟩ (fun ah=>?_)
    clear hK K h hb
    refine tk 15 ah ?_
    refine cZ 16 (fun K hK=>?_)
    obtain ⟨q0,q1,q2,q3,q4,q5,q6,q7⟩:=X1.out.fV rfl
    obtain ⟨f0,f1,f2,f3,f4,f5,f6,f7⟩:=X1.out.zm
    go_simp
    have HST:=aj (rO w5 (W.heap.size+1) (.slice qD C.length cc') (.slice pa' P.length pc') (.slice nV Q.length nU) (.int .i64 hf) (.slice na' N.length wR) (.slice oW T.length oV) (.slice qC U.length qB) (.int .i64 now))
    have rD:=aj (rQ (w:=w5) (g:=W.heap.size+1) (v0:=.slice qD C.length cc') (v1:=.slice pa' P.length pc') (v2:=.slice nV Q.length nU) (v3:=.int .i64 hf) (v4:=.slice na' N.length wR) (v5:=.slice oW T.length oV) (v6:=.slice qC U.length qB) (v7:=.int .i64 now) X1.out)
    refine hK.out _ _ ⟨jA ah.1 HST.out (fun k hk=>by rw [hk];omega) ah.1.size,aN.off ah.2.1 HST.out ah.2.1.lt (by omega),⟨_,rD.out⟩⟩ (fun ah=>?_)
    clear hK K q0 f0 q1 f1 q2 f2 q3 f3 q4 f4 q5 f5 q6 f6 q7 f7
    refine dQ ?_
    have uw:=aj ah.1
    clear ah
    go_wp2_with fail
    go_meet
    exact ⟨_,_,_,_,_,_,_,_,_,_,_,_,rD,aj (rJ (b:=W.heap.size+1) (c0:=w0.heap.size) (c1:=w1.heap.size) (n0:=w2.heap.size) (n1:=w3.heap.size) (t0:=w3.heap.size) (t1:=w4.heap.size) (u0:=w4.heap.size) (u1:=w5.heap.size) (by omega) HST.out oD.out rE.out Cw.out HOA.out),uw⟩
  ·skip
   go_simp
   obtain ⟨w1,hw⟩:∃ w,w=((w0.alloc (.cells #[] 128)).drew):=⟨_,rfl⟩
   rw [←hw]
   have hb:Below w0.heap.size w0 w1:=by rw [hw];exact ((aU _ _).alloc (bK _) _).drew
   clear hw
   have h:True:=trivial
   have X1:=aj (X1.out.call hb)
   have hz1:w0.heap.size≤w1.heap.size:=hb.size
   refine hK.out _ _ ⟨HB0.out.trans (hb.mono HB0.out.size),X0.out.call hb,⟨_,X1.out⟩⟩ (fun ah=>?_)
   clear hK K h hb
   refine cZ 2 (fun K hK=>?_)
   go_simp
   go_at_call 110
   refine (wQ HRR.out hp hq (aC (aY ak) JE.out ah.1) (aC aD FC.out ah.1) (aC aB JB.out ah.1)).mono ?_
   intro e w2 h
   obtain ⟨us,rfl,ho,hb⟩:=bX h
   have ho2:=ho
   obtain ⟨qD,cc',pa',pc',nV,nU,_,_,_,rfl,_⟩:=rR ho2
   have oD:=aj (show bZ.ow w2 (Rg w1.heap.size w2.heap.size) (C,P,Q,hf) [.slice qD C.length cc',.slice pa' P.length pc',.slice nV Q.length nU,.int .i64 hf] from ho)
   clear ho ho2
   have hb:Below w1.heap.size w1 w2:=hb
   have X1:=aj (X1.out.call hb)
   have hz2:w1.heap.size≤w2.heap.size:=hb.size
   refine hK.out _ _ ⟨ah.1.trans (hb.mono ah.1.size),ah.2.1.call hb,⟨_,X1.out⟩⟩ (fun ah=>?_)
   clear hK K h hb
   refine cZ 5 (fun K hK=>?_)
   go_simp
   go_at_call 109
   refine (qh hn hnb (aC aK JD.out ah.1)).mono ?_
   intro e w3 h
   obtain ⟨na',wR,rfl,ho,hb⟩:=bI h
   have rE:=aj (show bG aJ w3 (Rg w2.heap.size w3.heap.size) N na' wR from ho)
   clear ho
   have hb:Below w2.heap.size w2 w3:=hb
   have oD:=aj (bY.bU oD.out (fun q hq=>hb.block q (by have:=hq.2;omega)))
   have X1:=aj (X1.out.call hb)
   have hz3:w2.heap.size≤w3.heap.size:=hb.size
   refine hK.out _ _ ⟨ah.1.trans (hb.mono ah.1.size),ah.2.1.call hb,⟨_,X1.out⟩⟩ (fun ah=>?_)
   clear hK K h hb
   refine cZ 8 (fun K hK=>?_)
   go_simp
   go_at_call 111
   refine (nS ht hts (aC ay Mw.out ah.1)).mono ?_
   intro e w4 h
   obtain ⟨oW,oV,rfl,ho,hb⟩:=bI h
   have Cw:=aj (show bG aI w4 (Rg w3.heap.size w4.heap.size) T oW oV from ho)
   clear ho
   have hb:Below w3.heap.size w3 w4:=hb
   have oD:=aj (bY.bU oD.out (fun q hq=>hb.block q (by have:=hq.2;omega)))
   have rE:=aj (rE.out.keep aK (fun q hq=>hb.block q (by have:=hq.2;omega)))
   have X1:=aj (X1.out.call hb)
   have mP:w3.heap.size≤w4.heap.size:=hb.size
   refine hK.out _ _ ⟨ah.1.trans (hb.mono ah.1.size),ah.2.1.call hb,⟨_,X1.out⟩⟩ (fun ah=>?_)
   clear hK K h hb
   refine cZ 12 (fun K hK=>?_)
   obtain ⟨qC,qB,w5,hr,ho,hb⟩:=wI ⟨W.heap.size+1+1,0,none⟩ hu (aC aT Mv.out ah.1)
   refine iy rfl (.tmp 12) (.tmp 14) 42 rfl rfl rfl hr ?_
   have HOA:=aj ho
   clear hr ho
   have h:True:=trivial
   have oD:=aj (bY.bU oD.out (fun q hq=>hb.block q (by have:=hq.2;omega)))
   have rE:=aj (rE.out.keep aK (fun q hq=>hb.block q (by have:=hq.2;omega)))
   have Cw:=aj (Cw.out.keep ay (fun q hq=>hb.block q (by have:=hq.2;omega)))
   have X1:=aj (X1.out.call hb)
   have uo:w4.heap.size≤w5.heap.size:=hb.size
   refine hK.out _ _ ⟨ah.1.trans (hb.mono ah.1.size),ah.2.1.call hb,⟨_,X1.out⟩⟩ (fun ah=>?_)
   clear hK K h hb
   refine tk 15 ah ?_
   refine cZ 16 (fun K hK=>?_)
   obtain ⟨q0,q1,q2,q3,q4,q5,q6,q7⟩:=X1.out.fV rfl
   obtain ⟨f0,f1,f2,f3,f4,f5,f6,f7⟩:=X1.out.zm
   go_simp
   have HST:=aj (rO w5 (W.heap.size+1) (.slice qD C.length cc') (.slice pa' P.length pc') (.slice nV Q.length nU) (.int .i64 hf) (.slice na' N.length wR) (.slice oW T.length oV) (.slice qC U.length qB) (.int .i64 now))
   have rD:=aj (rQ (w:=w5) (g:=W.heap.size+1) (v0:=.slice qD C.length cc') (v1:=.slice pa' P.length pc') (v2:=.slice nV Q.length nU) (v3:=.int .i64 hf) (v4:=.slice na' N.length wR) (v5:=.slice oW T.length oV) (v6:=.slice qC U.length qB) (v7:=.int .i64 now) X1.out)
   refine hK.out _ _ ⟨jA ah.1 HST.out (fun k hk=>by rw [hk];omega) ah.1.size,aN.off ah.2.1 HST.out ah.2.1.lt (by omega),⟨_,rD.out⟩⟩ (fun ah=>?_)
   clear hK K q0 f0 q1 f1 q2 f2 q3 f3 q4 f4 q5 f5 q6 f6 q7 f7
   refine dQ ?_
   have uw:=aj ah.1
   clear ah
   go_wp2_with fail
   go_meet
   exact ⟨_,_,_,_,_,_,_,_,_,_,_,_,rD,aj (rJ (b:=W.heap.size+1) (c0:=w1.heap.size) (c1:=w2.heap.size) (n0:=w2.heap.size) (n1:=w3.heap.size) (t0:=w3.heap.size) (t1:=w4.heap.size) (u0:=w4.heap.size) (u1:=w5.heap.size) (by omega) HST.out oD.out rE.out Cw.out HOA.out),uw⟩
 case rest=>
  obtain ⟨qD,cc',pa',pc',nV,nU,na',wR,oW,oV,qC,qB,Y1,HOW,uw⟩:=hcut
  obtain ⟨r0,r1,r2,r3,r4,r5,r6,r7⟩:=Y1.out.fV rfl
  go_wp2
  refine qA (v:=.agg #[.slice qD C.length cc',.slice pa' P.length pc',.slice nV Q.length nU,.int .i64 hf,.slice na' N.length wR,.slice oW T.length oV,.slice qC U.length qB,.int .i64 now]) (by simp [results,Tryz.results50,go_sem, *]) rfl ⟨[.slice qD C.length cc',.slice pa' P.length pc',.slice nV Q.length nU,.int .i64 hf,.slice na' N.length wR,.slice oW T.length oV,.slice qC U.length qB,.int .i64 now],rfl,HOW.out,uw.out⟩
end
end Go.Proofs.YtlhfiapfncikdaaGreatDoor.aP
