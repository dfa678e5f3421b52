import Derived.Test.YtlhfiapfncikdaaGreatDoorPN14
import Derived.Test.YtlhfiapfncikdaaGreatDoorPN19
import Derived.Test.YtlhfiapfncikdaaGreatDoorPN20
set_option linter.unusedVariables false
set_option linter.unusedSimpArgs false
set_option maxRecDepth 100000
set_option maxHeartbeats 3200000
namespace Go.Proofs.YtlhfiapfncikdaaGreatDoor
namespace aQ
section
open Go.RowKit bN bO bJ bQ
theorem FB {C:List (List ay)}{P:List bA}{Q:List aX}{hf:Int}{ca pa qa:Option Addr}{cc pc qc:Nat}{N:List aP}{T:List aF}{U:List bI}{now:Int}{na ta ua:Option Addr}{nc tc uc:Nat}{W:World}(hR:iW C)(hp:P.length≤1048576)(hq:Q.length≤1048576)(hn:N.length≤4096)(hnb:∀ x∈N,x.2.length≤1048576)(ht:T.length≤4096)(hts:(Sl aI).sz T≤1048576)(hu:U.length≤1048576)(hC:aJ (Sl av) W W.heap.size C ca cc)(hP:aJ aT W W.heap.size P pa pc)(hQ:aJ aN W W.heap.size Q qa qc)(hN:aJ aL W W.heap.size N na nc)(hT:aJ aI W W.heap.size T ta tc)(hU:aJ bC W W.heap.size U ua uc) :
 Calls Tryz.prog 50 #[.agg #[.slice ca C.length cc,.slice pa P.length pc,.slice qa Q.length qc,.int .i64 hf,.slice na N.length nc,.slice ta T.length tc,.slice ua U.length uc,.int .i64 now]] W (kT bW ((C,P,Q,hf),N,T,U,now) W):=by
 have HRR:=ak hR
 have JU:=ak hC
 have FM:=ak hP
 have JQ:=ak hQ
 have JR:=ak hN
 have MW:=ak hT
 have MV:=ak hU
 clear hR hC hP hQ hN hT hU
 obtain ⟨w0,hw0⟩:∃ w,w=(W.alloc (.cells #[.slice ca C.length cc,.slice pa P.length pc,.slice qa Q.length qc,.int .i64 hf,.slice na N.length nc,.slice ta T.length tc,.slice ua U.length uc,.int .i64 now] 44)).alloc (.cells #[.slice none 0 0,.slice none 0 0,.slice none 0 0,.int .i64 0,.slice none 0 0,.slice none 0 0,.slice none 0 0,.int .i64 0] 44):=⟨_,rfl⟩
 have hb0:Below W.heap.size W w0:=by rw [hw0];exact ((aW _ _).alloc (bK _) _).alloc (by simp) _
 have kW:aO w0 (W.heap.size) 44 #[.slice ca C.length cc,.slice pa P.length pc,.slice qa Q.length qc,.int .i64 hf,.slice na N.length nc,.slice ta T.length tc,.slice ua U.length uc,.int .i64 now]:=by
  have h9:=aO.new W 44 #[.slice ca C.length cc,.slice pa P.length pc,.slice qa Q.length qc,.int .i64 hf,.slice na N.length nc,.slice ta T.length tc,.slice ua U.length uc,.int .i64 now]
  try simp only [World.size_alloc] at h9
  rw [hw0];exact (h9.alloc _)
 have X0:=ak kW
 have qH:aO w0 (W.heap.size+1) 44 #[.slice none 0 0,.slice none 0 0,.slice none 0 0,.int .i64 0,.slice none 0 0,.slice none 0 0,.slice none 0 0,.int .i64 0]:=by
  have h9:=aO.new (W.alloc (.cells #[.slice ca C.length cc,.slice pa P.length pc,.slice qa Q.length qc,.int .i64 hf,.slice na N.length nc,.slice ta T.length tc,.slice ua U.length uc,.int .i64 now] 44)) 44 #[.slice none 0 0,.slice none 0 0,.slice none 0 0,.int .i64 0,.slice none 0 0,.slice none 0 0,.slice none 0 0,.int .i64 0]
  try simp only [World.size_alloc] at h9
  rw [hw0];exact h9
 have X1:=ak qH
 have HB0:=ak hb0
 have hz0:=hb0.size
 clear hb0  kW qH
 have hs0:w0.heap.size=W.heap.size+1+1:=by rw [hw0];simp
 go_enter Tryz.func50,Tryz.ntmps50
 go_upto_region 1 with fail
 rw [←hw0]
 clear hw0
 go_cut [] (fun wx=>∃ qF cc' pa' pc' nH nG na' xu oo mZ qE qD,Hid (aO wx (W.heap.size+1) 44 #[.slice qF C.length cc',.slice pa' P.length pc',.slice nH Q.length nG,.int .i64 hf,.slice na' N.length xu,.slice oo T.length mZ,.slice qE U.length qD,.int .i64 now])∧Hid (bW.ow wx (Rg W.heap.size wx.heap.size) ((C,P,Q,hf),N,T,U,now) [.slice qF C.length cc',.slice pa' P.length pc',.slice nH Q.length nG,.int .i64 hf,.slice na' N.length xu,.slice oo T.length mZ,.slice qE U.length qD,.int .i64 now])∧Hid (Below W.heap.size W wx))
 case first=>
  refine dX (S:=(fun V=>Below W.heap.size W V∧aO V W.heap.size 44 #[.slice ca C.length cc,.slice pa P.length pc,.slice qa Q.length qc,.int .i64 hf,.slice na N.length nc,.slice ta T.length tc,.slice ua U.length uc,.int .i64 now]∧∃ cs,aO V (W.heap.size+1) 44 cs)) (by kernel_rfl) (⟨HB0.out.drew,X0.out.call (aW _ w0).drew,⟨_,X1.out.call (aW _ w0).drew⟩⟩) (fun ah=>?_)
  refine tk 0 ah ?_
  refine tk 1 ah ?_ (hy:=fun w aj=>by (try dsimp only at aj);have k0:=aj.2.1.at_ 0 rfl;have k1:=aj.2.1.at_ 1 rfl;have k2:=aj.2.1.at_ 2 rfl;have k3:=aj.2.1.at_ 3 rfl;clear aj;go_simp;try with_reducible rfl)
  refine tk 3 ah ?_
  refine tk 4 ah ?_ (hy:=fun w aj=>by (try dsimp only at aj);have k0:=aj.2.1.at_ 4 rfl;clear aj;go_simp;try with_reducible rfl)
  refine tk 6 ah ?_
  refine tk 7 ah ?_ (hy:=fun w aj=>by (try dsimp only at aj);have k0:=aj.2.1.at_ 5 rfl;clear aj;go_simp;try with_reducible rfl)
  refine tk 10 ah ?_
  refine tk 11 ah ?_ (hy:=fun w aj=>by (try dsimp only at aj);have k0:=aj.2.1.at_ 6 rfl;clear aj;go_simp;try with_reducible rfl)
  refine tk 13 ah ?_
  refine tk 14 ah ?_ (hy:=fun w aj=>by (try dsimp only at aj);have k0:=aj.2.1.at_ 7 rfl;clear aj;go_simp;try with_reducible rfl)
  refine rd2 2 9 (fun K hK=>?_) (fun K hK=>?_)
  ·skip
   go_simp
   go_at_call 110
   refine (xk HRR.out hp hq (aD (aZ au) JU.out ah.1) (aD aG FM.out ah.1) (aD aC JQ.out ah.1)).mono ?_
   intro e w1 h
   obtain ⟨us,rfl,ho,hb⟩:=bY h
   have ho2:=ho
   obtain ⟨qF,cc',pa',pc',nH,nG,_,_,_,rfl,_⟩:=sj ho2
   have oK:=ak (show cu.ow w1 (Rg w0.heap.size w1.heap.size) (C,P,Q,hf) [.slice qF C.length cc',.slice pa' P.length pc',.slice nH Q.length nG,.int .i64 hf] from ho)
   clear ho ho2
   have hb:Below w0.heap.size w0 w1:=(aW _ w0).drew.trans hb
   have X1:=ak (X1.out.call hb)
   have hz1:w0.heap.size≤w1.heap.size:=hb.size
   refine hK.out _ _ ⟨HB0.out.trans (hb.mono HB0.out.size),X0.out.call hb,⟨_,X1.out⟩⟩ (fun ah=>?_)
   clear hK K h hb
   refine rd2 5 9 (fun K hK=>?_) (fun K hK=>?_)
   ·skip
    go_simp
    go_at_call 109
    refine (ql hn hnb (aD aK JR.out ah.1)).mono ?_
    intro e w2 h
    obtain ⟨na',xu,rfl,ho,hb⟩:=bL h
    have rO:=ak (show bH aL w2 (Rg w1.heap.size w2.heap.size) N na' xu from ho)
    clear ho
    have hb:Below w1.heap.size w1 w2:=hb
    have oK:=ak (bX.bT oK.out (fun q hq=>hb.block q (by have:=hq.2;omega)))
    have X1:=ak (X1.out.call hb)
    have hz2:w1.heap.size≤w2.heap.size:=hb.size
    refine hK.out _ _ ⟨ah.1.trans (hb.mono ah.1.size),ah.2.1.call hb,⟨_,X1.out⟩⟩ (fun ah=>?_)
    clear hK K h hb
    refine rd2 8 9 (fun K hK=>?_) (fun K hK=>?_)
    ·skip
     go_simp
     go_at_call 111
     refine (og ht hts (aD aA MW.out ah.1)).mono ?_
     intro e w3 h
     obtain ⟨oo,mZ,rfl,ho,hb⟩:=bL h
     have CB:=ak (show bH aI w3 (Rg w2.heap.size w3.heap.size) T oo mZ from ho)
     clear ho
     have hb:Below w2.heap.size w2 w3:=hb
     have oK:=ak (bX.bT oK.out (fun q hq=>hb.block q (by have:=hq.2;omega)))
     have rO:=ak (rO.out.keep aK (fun q hq=>hb.block q (by have:=hq.2;omega)))
     have X1:=ak (X1.out.call hb)
     have hz3:w2.heap.size≤w3.heap.size:=hb.size
     refine hK.out _ _ ⟨ah.1.trans (hb.mono ah.1.size),ah.2.1.call hb,⟨_,X1.out⟩⟩ (fun ah=>?_)
     clear hK K h hb
     refine dw 9 (fun K hK=>?_)
     go_simp
     obtain ⟨w4,hw⟩:∃ w,w=(w3.alloc (.cells #[] 128)):=⟨_,rfl⟩
     rw [←hw]
     have hb:Below w3.heap.size w3 w4:=by rw [hw];exact ((aW _ _).alloc (bK _) _)
     clear hw
     have h:True:=trivial
     have oK:=ak (bX.bT oK.out (fun q hq=>hb.block q (by have:=hq.2;omega)))
     have rO:=ak (rO.out.keep aK (fun q hq=>hb.block q (by have:=hq.2;omega)))
     have CB:=ak (CB.out.keep aA (fun q hq=>hb.block q (by have:=hq.2;omega)))
     have X1:=ak (X1.out.call hb)
     have lW:w3.heap.size≤w4.heap.size:=hb.size
     refine hK.out _ _ ⟨ah.1.trans (hb.mono ah.1.size),ah.2.1.call hb,⟨_,X1.out⟩⟩ (fun ah=>?_)
     clear hK K h hb
     refine dw 12 (fun K hK=>?_)
     obtain ⟨qE,qD,w5,hr,ho,hb⟩:=wT ⟨w3.heap.size,0,none⟩ hu (aD aU MV.out ah.1)
     refine iy rfl (.tmp 12) (.tmp 14) 42 rfl rfl rfl hr ?_
     have HOA:=ak ho
     clear hr ho
     have h:True:=trivial
     have oK:=ak (bX.bT oK.out (fun q hq=>hb.block q (by have:=hq.2;omega)))
     have rO:=ak (rO.out.keep aK (fun q hq=>hb.block q (by have:=hq.2;omega)))
     have CB:=ak (CB.out.keep aA (fun q hq=>hb.block q (by have:=hq.2;omega)))
     have X1:=ak (X1.out.call hb)
     have uI:w4.heap.size≤w5.heap.size:=hb.size
     refine hK.out _ _ ⟨ah.1.trans (hb.mono ah.1.size),ah.2.1.call hb,⟨_,X1.out⟩⟩ (fun ah=>?_)
     clear hK K h hb
     refine tk 15 ah ?_
     refine dw 16 (fun K hK=>?_)
     obtain ⟨q0,q1,q2,q3,q4,q5,q6,q7⟩:=X1.out.gy rfl
     obtain ⟨f0,f1,f2,f3,f4,f5,f6,f7⟩:=X1.out.zF
     go_simp
     have HST:=ak (rY w5 (W.heap.size+1) (.slice qF C.length cc') (.slice pa' P.length pc') (.slice nH Q.length nG) (.int .i64 hf) (.slice na' N.length xu) (.slice oo T.length mZ) (.slice qE U.length qD) (.int .i64 now))
     have rM:=ak (rZ (w:=w5) (g:=W.heap.size+1) (v0:=.slice qF C.length cc') (v1:=.slice pa' P.length pc') (v2:=.slice nH Q.length nG) (v3:=.int .i64 hf) (v4:=.slice na' N.length xu) (v5:=.slice oo T.length mZ) (v6:=.slice qE U.length qD) (v7:=.int .i64 now) X1.out)
     refine hK.out _ _ ⟨jA ah.1 HST.out (fun k hk=>by rw [hk];omega) ah.1.size,aO.off ah.2.1 HST.out ah.2.1.lt (by omega),⟨_,rM.out⟩⟩ (fun ah=>?_)
     clear hK K q0 f0 q1 f1 q2 f2 q3 f3 q4 f4 q5 f5 q6 f6 q7 f7
     refine dQ ?_
     have uK:=ak ah.1
     clear ah
     go_wp2_with fail
     go_meet
     exact ⟨_,_,_,_,_,_,_,_,_,_,_,_,rM,ak (rV (b:=W.heap.size+1) (c0:=w0.heap.size) (c1:=w1.heap.size) (n0:=w1.heap.size) (n1:=w2.heap.size) (t0:=w2.heap.size) (t1:=w3.heap.size) (u0:=w4.heap.size) (u1:=w5.heap.size) (by omega) HST.out oK.out rO.out CB.out HOA.out),uK⟩
    ·skip
     go_simp
     obtain ⟨w3,hw⟩:∃ w,w=(w2.alloc (.cells #[] 128)):=⟨_,rfl⟩
     rw [←hw]
     have hb:Below w2.heap.size w2 w3:=by rw [hw];exact ((aW _ _).alloc (bK _) _)
     clear hw
     have h:True:=trivial
     have oK:=ak (bX.bT oK.out (fun q hq=>hb.block q (by have:=hq.2;omega)))
     have rO:=ak (rO.out.keep aK (fun q hq=>hb.block q (by have:=hq.2;omega)))
     have X1:=ak (X1.out.call hb)
     have hz3:w2.heap.size≤w3.heap.size:=hb.size
     refine hK.out _ _ ⟨ah.1.trans (hb.mono ah.1.size),ah.2.1.call hb,⟨_,X1.out⟩⟩ (fun ah=>?_)
     clear hK K h hb
     refine dw 8 (fun K hK=>?_)
     go_simp
     go_at_call 111
     refine (og ht hts (aD aA MW.out ah.1)).mono ?_
     intro e w4 h
     obtain ⟨oo,mZ,rfl,ho,hb⟩:=bL h
     have CB:=ak (show bH aI w4 (Rg w3.heap.size w4.heap.size) T oo mZ from ho)
     clear ho
     have hb:Below w3.heap.size w3 w4:=hb
     have oK:=ak (bX.bT oK.out (fun q hq=>hb.block q (by have:=hq.2;omega)))
     have rO:=ak (rO.out.keep aK (fun q hq=>hb.block q (by have:=hq.2;omega)))
     have X1:=ak (X1.out.call hb)
     have lW:w3.heap.size≤w4.heap.size:=hb.size
     refine hK.out _ _ ⟨ah.1.trans (hb.mono ah.1.size),ah.2.1.call hb,⟨_,X1.out⟩⟩ (fun ah=>?_)
     clear hK K h hb
     refine dw 12 (fun K hK=>?_)
     obtain ⟨qE,qD,w5,hr,ho,hb⟩:=wT ⟨w2.heap.size,0,none⟩ hu (aD aU MV.out ah.1)
     refine iy rfl (.tmp 12) (.tmp 14) 42 rfl rfl rfl hr ?_
     have HOA:=ak ho
     clear hr ho
     have h:True:=trivial
     have oK:=ak (bX.bT oK.out (fun q hq=>hb.block q (by have:=hq.2;omega)))
     have rO:=ak (rO.out.keep aK (fun q hq=>hb.block q (by have:=hq.2;omega)))
     have CB:=ak (CB.out.keep aA (fun q hq=>hb.block q (by have:=hq.2;omega)))
     have X1:=ak (X1.out.call hb)
     have uI:w4.heap.size≤w5.heap.size:=hb.size
     refine hK.out _ _ ⟨ah.1.trans (hb.mono ah.1.size),ah.2.1.call hb,⟨_,X1.out⟩⟩ (fun ah=>?_)
     clear hK K h hb
     refine tk 15 ah ?_
     refine dw 16 (fun K hK=>?_)
     obtain ⟨q0,q1,q2,q3,q4,q5,q6,q7⟩:=X1.out.gy rfl
     obtain ⟨f0,f1,f2,f3,f4,f5,f6,f7⟩:=X1.out.zF
     go_simp
     have HST:=ak (rY w5 (W.heap.size+1) (.slice qF C.length cc') (.slice pa' P.length pc') (.slice nH Q.length nG) (.int .i64 hf) (.slice na' N.length xu) (.slice oo T.length mZ) (.slice qE U.length qD) (.int .i64 now))
     have rM:=ak (rZ (w:=w5) (g:=W.heap.size+1) (v0:=.slice qF C.length cc') (v1:=.slice pa' P.length pc') (v2:=.slice nH Q.length nG) (v3:=.int .i64 hf) (v4:=.slice na' N.length xu) (v5:=.slice oo T.length mZ) (v6:=.slice qE U.length qD) (v7:=.int .i64 now) X1.out)
     refine hK.out _ _ ⟨jA ah.1 HST.out (fun k hk=>by rw [hk];omega) ah.1.size,aO.off ah.2.1 HST.out ah.2.1.lt (by omega),⟨_,rM.out⟩⟩ (fun ah=>?_)
     clear hK K q0 f0 q1 f1 q2 f2 q3 f3 q4 f4 q5 f5 q6 f6 q7 f7
     refine dQ ?_
     have uK:=ak ah.1
     clear ah
     go_wp2_with fail
     go_meet
     exact ⟨_,_,_,_,_,_,_,_,_,_,_,_,rM,ak (rV (b:=W.heap.size+1) (c0:=w0.heap.size) (c1:=w1.heap.size) (n0:=w1.heap.size) (n1:=w2.heap.size) (t0:=w3.heap.size) (t1:=w4.heap.size) (u0:=w4.heap.size) (u1:=w5.heap.size) (by omega) HST.out oK.out rO.out CB.out HOA.out),uK⟩
   ·skip
    go_simp
    obtain ⟨w2,hw⟩:∃ w,w=(w1.alloc (.cells #[] 128)):=⟨_,rfl⟩
    rw [←hw]
    have hb:Below w1.heap.size w1 w2:=by rw [hw];exact ((aW _ _).alloc (bK _) _)
    clear hw
    have h:True:=trivial
    have oK:=ak (bX.bT oK.out (fun q hq=>hb.block q (by have:=hq.2;omega)))
    have X1:=ak (X1.out.call hb)
    have hz2:w1.heap.size≤w2.heap.size:=hb.size
    refine hK.out _ _ ⟨ah.1.trans (hb.mono ah.1.size),ah.2.1.call hb,⟨_,X1.out⟩⟩ (fun ah=>?_)
    clear hK K h hb
    refine dw 5 (fun K hK=>?_)
    go_simp
    go_at_call 109
    refine (ql hn hnb (aD aK JR.out ah.1)).mono ?_
    intro e w3 h
    obtain ⟨na',xu,rfl,ho,hb⟩:=bL h
    have rO:=ak (show bH aL w3 (Rg w2.heap.size w3.heap.size) N na' xu from ho)
    clear ho
    have hb:Below w2.heap.size w2 w3:=hb
    have oK:=ak (bX.bT oK.out (fun q hq=>hb.block q (by have:=hq.2;omega)))
    have X1:=ak (X1.out.call hb)
    have hz3:w2.heap.size≤w3.heap.size:=hb.size
    refine hK.out _ _ ⟨ah.1.trans (hb.mono ah.1.size),ah.2.1.call hb,⟨_,X1.out⟩⟩ (fun ah=>?_)
    clear hK K h hb
    refine dw 8 (fun K hK=>?_)
    go_simp
    go_at_call 111
    refine (og ht hts (aD aA MW.out ah.1)).mono ?_
    intro e w4 h
    obtain ⟨oo,mZ,rfl,ho,hb⟩:=bL h
    have CB:=ak (show bH aI w4 (Rg w3.heap.size w4.heap.size) T oo mZ from ho)
    clear ho
    have hb:Below w3.heap.size w3 w4:=hb
    have oK:=ak (bX.bT oK.out (fun q hq=>hb.block q (by have:=hq.2;omega)))
    have rO:=ak (rO.out.keep aK (fun q hq=>hb.block q (by have:=hq.2;omega)))
    have X1:=ak (X1.out.call hb)
    have lW:w3.heap.size≤w4.heap.size:=hb.size
    refine hK.out _ _ ⟨ah.1.trans (hb.mono ah.1.size),ah.2.1.call hb,⟨_,X1.out⟩⟩ (fun ah=>?_)
    clear hK K h hb
    refine dw 12 (fun K hK=>?_)
    obtain ⟨qE,qD,w5,hr,ho,hb⟩:=wT ⟨w1.heap.size,0,none⟩ hu (aD aU MV.out ah.1)
    refine iy rfl (.tmp 12) (.tmp 14) 42 rfl rfl rfl hr ?_
    have HOA:=ak ho
    clear hr ho
    have h:True:=trivial
    have oK:=ak (bX.bT oK.out (fun q hq=>hb.block q (by have:=hq.2;omega)))
    have rO:=ak (rO.out.keep aK (fun q hq=>hb.block q (by have:=hq.2;omega)))
    have CB:=ak (CB.out.keep aA (fun q hq=>hb.block q (by have:=hq.2;omega)))
    have X1:=ak (X1.out.call hb)
    have uI:w4.heap.size≤w5.heap.size:=hb.size
    refine hK.out _ _ ⟨ah.1.trans (hb.mono ah.1.size),ah.2.1.call hb,⟨_,X1.out⟩⟩ (fun ah=>?_)
    clear hK K h hb
    refine tk 15 ah ?_
    refine dw 16 (fun K hK=>?_)
    obtain ⟨q0,q1,q2,q3,q4,q5,q6,q7⟩:=X1.out.gy rfl
    obtain ⟨f0,f1,f2,f3,f4,f5,f6,f7⟩:=X1.out.zF
    go_simp
    have HST:=ak (rY w5 (W.heap.size+1) (.slice qF C.length cc') (.slice pa' P.length pc') (.slice nH Q.length nG) (.int .i64 hf) (.slice na' N.length xu) (.slice oo T.length mZ) (.slice qE U.length qD) (.int .i64 now))
    have rM:=ak (rZ (w:=w5) (g:=W.heap.size+1) (v0:=.slice qF C.length cc') (v1:=.slice pa' P.length pc') (v2:=.slice nH Q.length nG) (v3:=.int .i64 hf) (v4:=.slice na' N.length xu) (v5:=.slice oo T.length mZ) (v6:=.slice qE U.length qD) (v7:=.int .i64 now) X1.out)
    refine hK.out _ _ ⟨jA ah.1 HST.out (fun k hk=>by rw [hk];omega) ah.1.size,aO.off ah.2.1 HST.out ah.2.1.lt (by omega),⟨_,rM.out⟩⟩ (fun ah=>?_)
    clear hK K q0 f0 q1 f1 q2 f2 q3 f3 q4 f4 q5 f5 q6 f6 q7 f7
    refine dQ ?_
    have uK:=ak ah.1
    clear ah
    go_wp2_with fail
    go_meet
    exact ⟨_,_,_,_,_,_,_,_,_,_,_,_,rM,ak (rV (b:=W.heap.size+1) (c0:=w0.heap.size) (c1:=w1.heap.size) (n0:=w2.heap.size) (n1:=w3.heap.size) (t0:=w3.heap.size) (t1:=w4.heap.size) (u0:=w4.heap.size) (u1:=w5.heap.size) (by omega) HST.out oK.out rO.out CB.out HOA.out),uK⟩
  ·skip
   go_simp
   obtain ⟨w1,hw⟩:∃ w,w=((w0.alloc (.cells #[] 128)).drew):=⟨_,rfl⟩
   rw [←hw]
   have hb:Below w0.heap.size w0 w1:=by rw [hw];exact ((aW _ _).alloc (bK _) _).drew
   clear hw
   have h:True:=trivial
   have X1:=ak (X1.out.call hb)
   have hz1:w0.heap.size≤w1.heap.size:=hb.size
   refine hK.out _ _ ⟨HB0.out.trans (hb.mono HB0.out.size),X0.out.call hb,⟨_,X1.out⟩⟩ (fun ah=>?_)
   clear hK K h hb
   refine dw 2 (fun K hK=>?_)
   go_simp
   go_at_call 110
   refine (xk HRR.out hp hq (aD (aZ au) JU.out ah.1) (aD aG FM.out ah.1) (aD aC JQ.out ah.1)).mono ?_
   intro e w2 h
   obtain ⟨us,rfl,ho,hb⟩:=bY h
   have ho2:=ho
   obtain ⟨qF,cc',pa',pc',nH,nG,_,_,_,rfl,_⟩:=sj ho2
   have oK:=ak (show cu.ow w2 (Rg w1.heap.size w2.heap.size) (C,P,Q,hf) [.slice qF C.length cc',.slice pa' P.length pc',.slice nH Q.length nG,.int .i64 hf] from ho)
   clear ho ho2
   have hb:Below w1.heap.size w1 w2:=hb
   have X1:=ak (X1.out.call hb)
   have hz2:w1.heap.size≤w2.heap.size:=hb.size
   refine hK.out _ _ ⟨ah.1.trans (hb.mono ah.1.size),ah.2.1.call hb,⟨_,X1.out⟩⟩ (fun ah=>?_)
   clear hK K h hb
   refine dw 5 (fun K hK=>?_)
   go_simp
   go_at_call 109
   refine (ql hn hnb (aD aK JR.out ah.1)).mono ?_
   intro e w3 h
   obtain ⟨na',xu,rfl,ho,hb⟩:=bL h
   have rO:=ak (show bH aL w3 (Rg w2.heap.size w3.heap.size) N na' xu from ho)
   clear ho
   have hb:Below w2.heap.size w2 w3:=hb
   have oK:=ak (bX.bT oK.out (fun q hq=>hb.block q (by have:=hq.2;omega)))
   have X1:=ak (X1.out.call hb)
   have hz3:w2.heap.size≤w3.heap.size:=hb.size
   refine hK.out _ _ ⟨ah.1.trans (hb.mono ah.1.size),ah.2.1.call hb,⟨_,X1.out⟩⟩ (fun ah=>?_)
   clear hK K h hb
   refine dw 8 (fun K hK=>?_)
   go_simp
   go_at_call 111
   refine (og ht hts (aD aA MW.out ah.1)).mono ?_
   intro e w4 h
   obtain ⟨oo,mZ,rfl,ho,hb⟩:=bL h
   have CB:=ak (show bH aI w4 (Rg w3.heap.size w4.heap.size) T oo mZ from ho)
   clear ho
   have hb:Below w3.heap.size w3 w4:=hb
   have oK:=ak (bX.bT oK.out (fun q hq=>hb.block q (by have:=hq.2;omega)))
   have rO:=ak (rO.out.keep aK (fun q hq=>hb.block q (by have:=hq.2;omega)))
   have X1:=ak (X1.out.call hb)
   have lW:w3.heap.size≤w4.heap.size:=hb.size
   refine hK.out _ _ ⟨ah.1.trans (hb.mono ah.1.size),ah.2.1.call hb,⟨_,X1.out⟩⟩ (fun ah=>?_)
   clear hK K h hb
   refine dw 12 (fun K hK=>?_)
   obtain ⟨qE,qD,w5,hr,ho,hb⟩:=wT ⟨W.heap.size+1+1,0,none⟩ hu (aD aU MV.out ah.1)
   refine iy rfl (.tmp 12) (.tmp 14) 42 rfl rfl rfl hr ?_
   have HOA:=ak ho
   clear hr ho
   have h:True:=trivial
   have oK:=ak (bX.bT oK.out (fun q hq=>hb.block q (by have:=hq.2;omega)))
   have rO:=ak (rO.out.keep aK (fun q hq=>hb.block q (by have:=hq.2;omega)))
   have CB:=ak (CB.out.keep aA (fun q hq=>hb.block q (by have:=hq.2;omega)))
   have X1:=ak (X1.out.call hb)
   have uI:w4.heap.size≤w5.heap.size:=hb.size
   refine hK.out _ _ ⟨ah.1.trans (hb.mono ah.1.size),ah.2.1.call hb,⟨_,X1.out⟩⟩ (fun ah=>?_)
   clear hK K h hb
   refine tk 15 ah ?_
   refine dw 16 (fun K hK=>?_)
   obtain ⟨q0,q1,q2,q3,q4,q5,q6,q7⟩:=X1.out.gy rfl
   obtain ⟨f0,f1,f2,f3,f4,f5,f6,f7⟩:=X1.out.zF
   go_simp
   have HST:=ak (rY w5 (W.heap.size+1) (.slice qF C.length cc') (.slice pa' P.length pc') (.slice nH Q.length nG) (.int .i64 hf) (.slice na' N.length xu) (.slice oo T.length mZ) (.slice qE U.length qD) (.int .i64 now))
   have rM:=ak (rZ (w:=w5) (g:=W.heap.size+1) (v0:=.slice qF C.length cc') (v1:=.slice pa' P.length pc') (v2:=.slice nH Q.length nG) (v3:=.int .i64 hf) (v4:=.slice na' N.length xu) (v5:=.slice oo T.length mZ) (v6:=.slice qE U.length qD) (v7:=.int .i64 now) X1.out)
   refine hK.out _ _ ⟨jA ah.1 HST.out (fun k hk=>by rw [hk];omega) ah.1.size,aO.off ah.2.1 HST.out ah.2.1.lt (by omega),⟨_,rM.out⟩⟩ (fun ah=>?_)
   clear hK K q0 f0 q1 f1 q2 f2 q3 f3 q4 f4 q5 f5 q6 f6 q7 f7
   refine dQ ?_
   have uK:=ak ah.1
   clear ah
   go_wp2_with fail
   go_meet
   exact ⟨_,_,_,_,_,_,_,_,_,_,_,_,rM,ak (rV (b:=W.heap.size+1) (c0:=w1.heap.size) (c1:=w2.heap.size) (n0:=w2.heap.size) (n1:=w3.heap.size) (t0:=w3.heap.size) (t1:=w4.heap.size) (u0:=w4.heap.size) (u1:=w5.heap.size) (by omega) HST.out oK.out rO.out CB.out HOA.out),uK⟩
 case rest=>
  obtain ⟨qF,cc',pa',pc',nH,nG,na',xu,oo,mZ,qE,qD,Y1,HOW,uK⟩:=hcut
  obtain ⟨r0,r1,r2,r3,r4,r5,r6,r7⟩:=Y1.out.gy rfl
  go_wp2
  refine qC (v:=.agg #[.slice qF C.length cc',.slice pa' P.length pc',.slice nH Q.length nG,.int .i64 hf,.slice na' N.length xu,.slice oo T.length mZ,.slice qE U.length qD,.int .i64 now]) (by simp [results,Tryz.results50,go_sem, *]) rfl ⟨[.slice qF C.length cc',.slice pa' P.length pc',.slice nH Q.length nG,.int .i64 hf,.slice na' N.length xu,.slice oo T.length mZ,.slice qE U.length qD,.int .i64 now],rfl,HOW.out,uK.out⟩
end
end aQ
end Go.Proofs.YtlhfiapfncikdaaGreatDoor
