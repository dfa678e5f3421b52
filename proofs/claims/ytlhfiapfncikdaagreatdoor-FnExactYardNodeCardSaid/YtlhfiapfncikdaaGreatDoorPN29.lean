import Derived.Test.YtlhfiapfncikdaaGreatDoorPN9
import Derived.Test.YtlhfiapfncikdaaGreatDoorPN15
set_option linter.unusedVariables false
set_option linter.unusedSimpArgs false
set_option maxRecDepth 100000
set_option maxHeartbeats 3200000
namespace Go.Proofs.YtlhfiapfncikdaaGreatDoor
namespace aQ
section
open Go.RowKit bN bO bJ bQ eO
theorem U3 {α:Type}{E:Rp α}{L:List α}{W:World}{B:Nat}{a:Option Addr}{cap:Nat}(h:aJ E W B L a cap):L.length≤9223372036854775807:=by
 have h1:=h.1;have h2:=h.2.1;unfold maxLen at h2;omega
theorem jI {L:List bI}{k:Nat}{x:bI}(hx:L[k]? = some x)(h:¬YM L k x):¬yL L:=fun hr=>h (hr.2 k x hx)
theorem Qs {L:List bI}{a:Option Addr}{cap:Nat}{W:World}(h:aJ bC W W.heap.size L a cap) :
 Calls Tryz.prog 100 #[.slice a L.length cap] W (sS (Dq L) W):=by
 refine Calls.mono ?_ fun e w' h=>rT lK h
 have hn:=U3 h
 have H:=ak h
 clear h
 by_cases h48:L.length≤48
 rotate_left
 ·have HN:=ak (show ¬yL L from fun h=>h48 h.1)
  have hd:decide ((48:Int)<(L.length:Int))=true:=eD (by omega)
  go_enter Tryz.func100,Tryz.ntmps100
  go_wp2
  go_ret
  exact aB HN.out (aW _ _)
 have hd:decide ((48:Int)<(L.length:Int))=false:=dS (by omega)
 go_enter Tryz.func100,Tryz.ntmps100
 go_wp2
 go_loopw [4,3] (fun i q wr=>∃ k c:Nat,k≤L.length∧i=.int .i64 k∧q=.int .i64 c∧c≤6∧Hid (Gc L k∧Pw L k c)∧Below W.heap.size W wr) (fun i _ _=>L.length-(intOf i).toNat)
 case atStart=>exact ⟨0,0,dV _,rfl,rfl,by omega,ak ⟨DJ,QT⟩,aW _ _⟩
 case round=>
  obtain ⟨k,c,hk,rfl,rfl,hc6,HO,hB⟩:=hrel
  have HB:=ak hB
  have hsz:=hB.size
  by_cases hlt:k<L.length
  ·skip
   obtain ⟨⟨⟨x0,x1⟩,x2,x3⟩,hx⟩:=aM hlt
   have HX:=ak hx
   obtain ⟨g,o,us,rfl,hg,hu,hr⟩:=(H.out.below aU hB).at_ hx
   obtain ⟨rfl,oF⟩:=ku hr
   obtain ⟨e0,e1,e2,e3⟩:=Kn (a:=o+k*4) hu rfl
   have hi0:(0:Int)≤(k:Int):=eu _
   have hi1:(k:Int)<(L.length:Int):=by omega
   have hgl:g<wr.heap.size:=bV hg hsz
   have HA:=ak ((H.out.below aU hB))
   clear hu hr hg hB hx
   have hL:=fun V=>dH.rs_w x0 x1 V
   have hN:=fun V=>ns_w x2 oF V
   have hI:=fun V=>is_w x3 1 100000 V
   cases h1:dH.rB x0 x1 with
   | false=>
    rw [h1] at hL
    have HN:=ak (jI HX.out fun h=>by have:=h.1.1;simp only [h1] at this;cases this)
    clear h1
    go_wp2_with fail
    refine dX (S:=(fun V=>Below (wr).heap.size (wr) V)) (by kernel_rfl) ((aW _ _).drew) (fun ah=>?_)
    refine tk 0 ah ?_
    refine tk 1 ah ?_
    refine tk 2 ah ?_
    refine tk 3 ah ?_
    refine tk 4 ah ?_ (hy:=fun w aj=>by (try dsimp only at aj);have k0:=(aj.cell (p:=⟨g,o+k*4,none⟩) hgl).trans e0;have k1:=(aj.cell (p:=⟨g,o+k*4+1,none⟩) hgl).trans e1;clear aj;go_simp;try with_reducible rfl)
    refine dw 5 (fun K hK=>?_)
    go_simp
    go_at_call 162
    refine (hL _).mono ?_
    rintro e w1 ⟨rfl,hb⟩
    refine hK.out _ _ (ah.trans (hb.mono ah.size)) (fun ah=>?_)
    clear hK K hb
    refine tk 6 ah ?_
    refine tk 7 ah ?_
    refine tn 8 ah ?_
    refine tn 9 ah ?_
    refine tn 10 ah ?_
    refine tn 11 ah ?_
    refine tn 12 ah ?_
    refine tn 13 ah ?_
    refine tn 14 ah ?_
    refine tk 15 ah ?_
    refine tk 16 ah ?_
    refine tn 17 ah ?_
    refine tn 18 ah ?_
    refine tn 19 ah ?_
    refine tn 20 ah ?_
    refine tn 21 ah ?_
    refine tn 22 ah ?_
    refine tn 23 ah ?_
    refine tk 24 ah ?_
    refine tk 25 ah ?_
    refine tn 26 ah ?_
    refine tn 27 ah ?_
    refine tn 28 ah ?_
    refine tn 29 ah ?_
    refine tn 30 ah ?_
    refine tn 31 ah ?_
    refine tn 32 ah ?_
    refine tn 33 ah ?_
    refine tn 34 ah ?_
    refine tn 35 ah ?_
    refine tn 36 ah ?_
    refine tn 37 ah ?_
    refine tn 38 ah ?_
    refine tn 39 ah ?_
    refine tn 40 ah ?_
    refine tk 41 ah ?_
    refine dQ ?_
    have HF:=ak ah
    clear ah
    have HB2:=ak (HB.out.trans (HF.out.mono hsz))
    go_wp2
    go_ret
    exact aB HN.out HB2.out
   | true=>
   rw [h1] at hL
   have H1:=ak h1
   clear h1
   cases h2:j4 x2 with
   | false=>
    rw [h2] at hN
    have HN:=ak (jI HX.out fun h=>by have:=jS.2 h.1.2.1;simp only [h2] at this;cases this)
    clear h2
    go_wp2_with fail
    refine dX (S:=(fun V=>Below (wr).heap.size (wr) V)) (by kernel_rfl) ((aW _ _).drew) (fun ah=>?_)
    refine tk 0 ah ?_
    refine tk 1 ah ?_
    refine tk 2 ah ?_
    refine tk 3 ah ?_
    refine tk 4 ah ?_ (hy:=fun w aj=>by (try dsimp only at aj);have k0:=(aj.cell (p:=⟨g,o+k*4,none⟩) hgl).trans e0;have k1:=(aj.cell (p:=⟨g,o+k*4+1,none⟩) hgl).trans e1;clear aj;go_simp;try with_reducible rfl)
    refine dw 5 (fun K hK=>?_)
    go_simp
    go_at_call 162
    refine (hL _).mono ?_
    rintro e w1 ⟨rfl,hb⟩
    refine hK.out _ _ (ah.trans (hb.mono ah.size)) (fun ah=>?_)
    clear hK K hb
    refine tk 6 ah ?_
    refine tk 7 ah ?_
    refine tk 8 ah ?_
    refine tk 9 ah ?_
    refine tk 10 ah ?_
    refine tk 11 ah ?_
    refine tk 12 ah ?_ (hy:=fun w aj=>by (try dsimp only at aj);have k0:=(aj.cell (p:=⟨g,o+k*4+2,none⟩) hgl).trans e2;clear aj;go_simp;try with_reducible rfl)
    refine dw 13 (fun K hK=>?_)
    go_simp
    go_at_call 163
    refine (hN _).mono ?_
    rintro e w2 ⟨rfl,hb⟩
    refine hK.out _ _ (ah.trans (hb.mono ah.size)) (fun ah=>?_)
    clear hK K hb
    refine tk 14 ah ?_
    refine tk 15 ah ?_
    refine tk 16 ah ?_
    refine tn 17 ah ?_
    refine tn 18 ah ?_
    refine tn 19 ah ?_
    refine tn 20 ah ?_
    refine tn 21 ah ?_
    refine tn 22 ah ?_
    refine tn 23 ah ?_
    refine tk 24 ah ?_
    refine tk 25 ah ?_
    refine tn 26 ah ?_
    refine tn 27 ah ?_
    refine tn 28 ah ?_
    refine tn 29 ah ?_
    refine tn 30 ah ?_
    refine tn 31 ah ?_
    refine tn 32 ah ?_
    refine tn 33 ah ?_
    refine tn 34 ah ?_
    refine tn 35 ah ?_
    refine tn 36 ah ?_
    refine tn 37 ah ?_
    refine tn 38 ah ?_
    refine tn 39 ah ?_
    refine tn 40 ah ?_
    refine tk 41 ah ?_
    refine dQ ?_
    have HF:=ak ah
    clear ah
    have HB2:=ak (HB.out.trans (HF.out.mono hsz))
    go_wp2
    go_ret
    exact aB HN.out HB2.out
   | true=>
   rw [h2] at hN
   have H2:=ak (jS.1 h2)
   clear h2
   cases h3:dD x3 1 100000 with
   | false=>
    rw [h3] at hI
    have HN:=ak (jI HX.out fun h=>by have:=h.1.2.2;simp only [h3] at this;cases this)
    clear h3
    go_wp2_with fail
    refine dX (S:=(fun V=>Below (wr).heap.size (wr) V)) (by kernel_rfl) ((aW _ _).drew) (fun ah=>?_)
    refine tk 0 ah ?_
    refine tk 1 ah ?_
    refine tk 2 ah ?_
    refine tk 3 ah ?_
    refine tk 4 ah ?_ (hy:=fun w aj=>by (try dsimp only at aj);have k0:=(aj.cell (p:=⟨g,o+k*4,none⟩) hgl).trans e0;have k1:=(aj.cell (p:=⟨g,o+k*4+1,none⟩) hgl).trans e1;clear aj;go_simp;try with_reducible rfl)
    refine dw 5 (fun K hK=>?_)
    go_simp
    go_at_call 162
    refine (hL _).mono ?_
    rintro e w1 ⟨rfl,hb⟩
    refine hK.out _ _ (ah.trans (hb.mono ah.size)) (fun ah=>?_)
    clear hK K hb
    refine tk 6 ah ?_
    refine tk 7 ah ?_
    refine tk 8 ah ?_
    refine tk 9 ah ?_
    refine tk 10 ah ?_
    refine tk 11 ah ?_
    refine tk 12 ah ?_ (hy:=fun w aj=>by (try dsimp only at aj);have k0:=(aj.cell (p:=⟨g,o+k*4+2,none⟩) hgl).trans e2;clear aj;go_simp;try with_reducible rfl)
    refine dw 13 (fun K hK=>?_)
    go_simp
    go_at_call 163
    refine (hN _).mono ?_
    rintro e w2 ⟨rfl,hb⟩
    refine hK.out _ _ (ah.trans (hb.mono ah.size)) (fun ah=>?_)
    clear hK K hb
    refine tk 14 ah ?_
    refine tk 15 ah ?_
    refine tk 16 ah ?_
    refine tk 17 ah ?_
    refine tk 18 ah ?_
    refine tk 19 ah ?_
    refine tk 20 ah ?_
    refine tk 21 ah ?_ (hy:=fun w aj=>by (try dsimp only at aj);have k0:=(aj.cell (p:=⟨g,o+k*4+3,none⟩) hgl).trans e3;clear aj;go_simp;try with_reducible rfl)
    refine dw 22 (fun K hK=>?_)
    go_simp
    go_at_call 157
    refine (hI _).mono ?_
    rintro e w3 ⟨rfl,hb⟩
    refine hK.out _ _ (ah.trans (hb.mono ah.size)) (fun ah=>?_)
    clear hK K hb
    refine tk 23 ah ?_
    refine tk 24 ah ?_
    refine tk 25 ah ?_
    refine tn 26 ah ?_
    refine tn 27 ah ?_
    refine tn 28 ah ?_
    refine tn 29 ah ?_
    refine tn 30 ah ?_
    refine tn 31 ah ?_
    refine tn 32 ah ?_
    refine tn 33 ah ?_
    refine tn 34 ah ?_
    refine tn 35 ah ?_
    refine tn 36 ah ?_
    refine tn 37 ah ?_
    refine tn 38 ah ?_
    refine tn 39 ah ?_
    refine tn 40 ah ?_
    refine tk 41 ah ?_
    refine dQ ?_
    have HF:=ak ah
    clear ah
    have HB2:=ak (HB.out.trans (HF.out.mono hsz))
    go_wp2
    go_ret
    exact aB HN.out HB2.out
   | true=>
   rw [h3] at hI
   have kX:=ak (show okU ((x0,x1),x2,x3) from ⟨H1.out,H2.out,h3⟩)
   clear h3
   by_cases hk0:k=0
   ·have hkp:¬0<k:=by omega
    have hd0:decide ((0:Int)<(k:Int))=false:=dS (by omega)
    have HS:=ak (lM HO.out.1 HX.out ⟨kX.out,fun y h=>by omega,fun y h=>by omega⟩)
    have HR:=ak (He HX.out fun y h=>by omega)
    clear hk0
    go_wp2_with fail
    refine dX (S:=(fun V=>Below (wr).heap.size (wr) V)) (by kernel_rfl) ((aW _ _).drew) (fun ah=>?_)
    refine tk 0 ah ?_
    refine tk 1 ah ?_
    refine tk 2 ah ?_
    refine tk 3 ah ?_
    refine tk 4 ah ?_ (hy:=fun w aj=>by (try dsimp only at aj);have k0:=(aj.cell (p:=⟨g,o+k*4,none⟩) hgl).trans e0;have k1:=(aj.cell (p:=⟨g,o+k*4+1,none⟩) hgl).trans e1;clear aj;go_simp;try with_reducible rfl)
    refine dw 5 (fun K hK=>?_)
    go_simp
    go_at_call 162
    refine (hL _).mono ?_
    rintro e w1 ⟨rfl,hb⟩
    refine hK.out _ _ (ah.trans (hb.mono ah.size)) (fun ah=>?_)
    clear hK K hb
    refine tk 6 ah ?_
    refine tk 7 ah ?_
    refine tk 8 ah ?_
    refine tk 9 ah ?_
    refine tk 10 ah ?_
    refine tk 11 ah ?_
    refine tk 12 ah ?_ (hy:=fun w aj=>by (try dsimp only at aj);have k0:=(aj.cell (p:=⟨g,o+k*4+2,none⟩) hgl).trans e2;clear aj;go_simp;try with_reducible rfl)
    refine dw 13 (fun K hK=>?_)
    go_simp
    go_at_call 163
    refine (hN _).mono ?_
    rintro e w2 ⟨rfl,hb⟩
    refine hK.out _ _ (ah.trans (hb.mono ah.size)) (fun ah=>?_)
    clear hK K hb
    refine tk 14 ah ?_
    refine tk 15 ah ?_
    refine tk 16 ah ?_
    refine tk 17 ah ?_
    refine tk 18 ah ?_
    refine tk 19 ah ?_
    refine tk 20 ah ?_
    refine tk 21 ah ?_ (hy:=fun w aj=>by (try dsimp only at aj);have k0:=(aj.cell (p:=⟨g,o+k*4+3,none⟩) hgl).trans e3;clear aj;go_simp;try with_reducible rfl)
    refine dw 22 (fun K hK=>?_)
    go_simp
    go_at_call 157
    refine (hI _).mono ?_
    rintro e w3 ⟨rfl,hb⟩
    refine hK.out _ _ (ah.trans (hb.mono ah.size)) (fun ah=>?_)
    clear hK K hb
    refine tk 23 ah ?_
    refine tk 24 ah ?_
    refine tk 25 ah ?_
    refine tk 26 ah ?_
    refine tk 27 ah ?_
    refine tk 28 ah ?_
    refine tn 29 ah ?_
    refine tn 30 ah ?_
    refine tn 31 ah ?_
    refine tn 32 ah ?_
    refine tn 33 ah ?_
    refine tn 34 ah ?_
    refine tn 35 ah ?_
    refine tn 36 ah ?_
    refine tn 37 ah ?_
    refine tn 38 ah ?_
    refine tn 39 ah ?_
    refine tk 40 ah ?_
    refine tk 41 ah ?_
    refine dQ ?_
    have HF:=ak ah
    clear ah
    have HB2:=ak (HB.out.trans (HF.out.mono hsz))
    go_wp2_with fail
    go_quiet (fail)
    all_goals
     go_wp2
     go_roundw
     case rel=>exact ⟨k+1,1,by omega,by go_num,by go_num,by omega,ak ⟨HS.out,HR.out⟩,by first | exact HB2.out | exact HB2.out.drew | exact fD HB2.out _⟩
     case measure=>simp [intOf];omega
   ·have hkp:0<k:=by omega
    have hd0:decide ((0:Int)<(k:Int))=true:=eD (by omega)
    obtain ⟨j,hj⟩:∃ j,k=j+1:=⟨k-1,by omega⟩
    have HJ:=ak hj
    obtain ⟨⟨⟨y0,y1⟩,y2,y3⟩,hy⟩:=aM (show j<L.length by omega)
    have HY:=ak (show L[k-1]? = some ((y0,y1),y2,y3) from by rw [hj,Nat.add_sub_cancel];exact hy)
    obtain ⟨g',o',us',hgo,hg',hu',hr'⟩:=HA.out.at_ hy
    obtain ⟨rfl,rfl⟩:g'=g∧o'=o:=by cases hgo;exact ⟨rfl,rfl⟩
    obtain ⟨rfl,b_y2⟩:=ku hr'
    have p0:wr.cell? ⟨g',o'+j*4,none⟩=some (.int .i64 y0):=by simpa [dK,Nat.add_assoc] using hu' 0 _ rfl
    have p1:wr.cell? ⟨g',o'+j*4+1,none⟩=some (.int .i64 y1):=by simpa [dK,Nat.add_assoc] using hu' 1 _ rfl
    have p2:wr.cell? ⟨g',o'+j*4+2,none⟩=some (.string y2):=by simpa [dK,Nat.add_assoc] using hu' 2 _ rfl
    have p3:wr.cell? ⟨g',o'+j*4+3,none⟩=some (.int .i64 y3):=by simpa [dK,Nat.add_assoc] using hu' 3 _ rfl
    have hjs:(k:Int)-1=(j:Int):=by omega
    have hj0:(0:Int)≤(j:Int):=eu _
    have hj1:(j:Int)<(L.length:Int):=by omega
    have XF:IntKind.i64.wrap (j:Int)=(j:Int):=gK _ (by omega)
    have XP:=ak ((HO.out.1 (k-1) _ (by omega) HY.out).1.1)
    have hZ:=fun V=>abZ (x2:=y2) (x3:=y3) (y2:=x2) (y3:=x3) XP.out H1.out V
    clear hgo hg' hu' hr' hy hj hk0
    cases hz:yH ((y0,y1),y2,y3) ((x0,x1),x2,x3) with
    | false=>
     rw [hz] at hZ
     have HN:=ak (jI HX.out fun h=>by have:=(Ed XP.out H1.out).2 (h.2.1 _ (by have:=HJ.out;omega) HY.out);rw [hz] at this;cases this)
     clear hz
     go_wp2_with fail
     refine dX (S:=(fun V=>Below (wr).heap.size (wr) V)) (by kernel_rfl) ((aW _ _).drew) (fun ah=>?_)
     refine tk 0 ah ?_
     refine tk 1 ah ?_
     refine tk 2 ah ?_
     refine tk 3 ah ?_
     refine tk 4 ah ?_ (hy:=fun w aj=>by (try dsimp only at aj);have k0:=(aj.cell (p:=⟨g',o'+k*4,none⟩) hgl).trans e0;have k1:=(aj.cell (p:=⟨g',o'+k*4+1,none⟩) hgl).trans e1;clear aj;go_simp;try with_reducible rfl)
     refine dw 5 (fun K hK=>?_)
     go_simp
     go_at_call 162
     refine (hL _).mono ?_
     rintro e w1 ⟨rfl,hb⟩
     refine hK.out _ _ (ah.trans (hb.mono ah.size)) (fun ah=>?_)
     clear hK K hb
     refine tk 6 ah ?_
     refine tk 7 ah ?_
     refine tk 8 ah ?_
     refine tk 9 ah ?_
     refine tk 10 ah ?_
     refine tk 11 ah ?_
     refine tk 12 ah ?_ (hy:=fun w aj=>by (try dsimp only at aj);have k0:=(aj.cell (p:=⟨g',o'+k*4+2,none⟩) hgl).trans e2;clear aj;go_simp;try with_reducible rfl)
     refine dw 13 (fun K hK=>?_)
     go_simp
     go_at_call 163
     refine (hN _).mono ?_
     rintro e w2 ⟨rfl,hb⟩
     refine hK.out _ _ (ah.trans (hb.mono ah.size)) (fun ah=>?_)
     clear hK K hb
     refine tk 14 ah ?_
     refine tk 15 ah ?_
     refine tk 16 ah ?_
     refine tk 17 ah ?_
     refine tk 18 ah ?_
     refine tk 19 ah ?_
     refine tk 20 ah ?_
     refine tk 21 ah ?_ (hy:=fun w aj=>by (try dsimp only at aj);have k0:=(aj.cell (p:=⟨g',o'+k*4+3,none⟩) hgl).trans e3;clear aj;go_simp;try with_reducible rfl)
     refine dw 22 (fun K hK=>?_)
     go_simp
     go_at_call 157
     refine (hI _).mono ?_
     rintro e w3 ⟨rfl,hb⟩
     refine hK.out _ _ (ah.trans (hb.mono ah.size)) (fun ah=>?_)
     clear hK K hb
     refine tk 23 ah ?_
     refine tk 24 ah ?_
     refine tk 25 ah ?_
     refine tk 26 ah ?_
     refine tk 27 ah ?_
     refine tk 28 ah ?_
     refine tk 29 ah ?_
     refine tk 30 ah ?_
     refine tk 31 ah ?_
     refine tk 32 ah ?_
     refine tk 33 ah ?_ (hy:=fun w aj=>by (try dsimp only at aj);have k0:=(aj.cell (p:=⟨g',o'+j*4,none⟩) hgl).trans p0;have k1:=(aj.cell (p:=⟨g',o'+j*4+1,none⟩) hgl).trans p1;have k2:=(aj.cell (p:=⟨g',o'+j*4+2,none⟩) hgl).trans p2;have k3:=(aj.cell (p:=⟨g',o'+j*4+3,none⟩) hgl).trans p3;clear aj;go_simp;try with_reducible rfl)
     refine tk 34 ah ?_
     refine tk 35 ah ?_
     refine tk 36 ah ?_
     refine tk 37 ah ?_ (hy:=fun w aj=>by (try dsimp only at aj);have k0:=(aj.cell (p:=⟨g',o'+k*4,none⟩) hgl).trans e0;have k1:=(aj.cell (p:=⟨g',o'+k*4+1,none⟩) hgl).trans e1;have k2:=(aj.cell (p:=⟨g',o'+k*4+2,none⟩) hgl).trans e2;have k3:=(aj.cell (p:=⟨g',o'+k*4+3,none⟩) hgl).trans e3;clear aj;go_simp;try with_reducible rfl)
     refine dw 38 (fun K hK=>?_)
     go_simp
     go_at_call 164
     refine (hZ _).mono ?_
     rintro e w4 ⟨rfl,hb⟩
     refine hK.out _ _ (ah.trans (hb.mono ah.size)) (fun ah=>?_)
     clear hK K hb
     refine tk 39 ah ?_
     refine tk 40 ah ?_
     refine tk 41 ah ?_
     refine dQ ?_
     have HF:=ak ah
     clear ah
     have HB2:=ak (HB.out.trans (HF.out.mono hsz))
     go_wp2
     go_ret
     exact aB HN.out HB2.out
    | true=>
     rw [hz] at hZ
     have HLT:=ak ((Ed XP.out H1.out).1 hz)
     clear hz
     obtain ⟨b,hb⟩:∃ b,decide (((y0,y1):Int×Int)=(x0,x1))=b:=⟨_,rfl⟩
     have hq:=iK y0 y1 x0 x1 b hb
     have HLU:=ak (fun (u:bI) (_:0<k) (hu:L[k-1]? = some u)=>show ltU u ((x0,x1),x2,x3) from by rw [HY.out] at hu;cases hu;exact HLT.out)
     go_wp2_with fail
     refine dX (S:=(fun V=>Below (wr).heap.size (wr) V)) (by kernel_rfl) ((aW _ _).drew) (fun ah=>?_)
     refine tk 0 ah ?_
     refine tk 1 ah ?_
     refine tk 2 ah ?_
     refine tk 3 ah ?_
     refine tk 4 ah ?_ (hy:=fun w aj=>by (try dsimp only at aj);have k0:=(aj.cell (p:=⟨g',o'+k*4,none⟩) hgl).trans e0;have k1:=(aj.cell (p:=⟨g',o'+k*4+1,none⟩) hgl).trans e1;clear aj;go_simp;try with_reducible rfl)
     refine dw 5 (fun K hK=>?_)
     go_simp
     go_at_call 162
     refine (hL _).mono ?_
     rintro e w1 ⟨rfl,hb⟩
     refine hK.out _ _ (ah.trans (hb.mono ah.size)) (fun ah=>?_)
     clear hK K hb
     refine tk 6 ah ?_
     refine tk 7 ah ?_
     refine tk 8 ah ?_
     refine tk 9 ah ?_
     refine tk 10 ah ?_
     refine tk 11 ah ?_
     refine tk 12 ah ?_ (hy:=fun w aj=>by (try dsimp only at aj);have k0:=(aj.cell (p:=⟨g',o'+k*4+2,none⟩) hgl).trans e2;clear aj;go_simp;try with_reducible rfl)
     refine dw 13 (fun K hK=>?_)
     go_simp
     go_at_call 163
     refine (hN _).mono ?_
     rintro e w2 ⟨rfl,hb⟩
     refine hK.out _ _ (ah.trans (hb.mono ah.size)) (fun ah=>?_)
     clear hK K hb
     refine tk 14 ah ?_
     refine tk 15 ah ?_
     refine tk 16 ah ?_
     refine tk 17 ah ?_
     refine tk 18 ah ?_
     refine tk 19 ah ?_
     refine tk 20 ah ?_
     refine tk 21 ah ?_ (hy:=fun w aj=>by (try dsimp only at aj);have k0:=(aj.cell (p:=⟨g',o'+k*4+3,none⟩) hgl).trans e3;clear aj;go_simp;try with_reducible rfl)
     refine dw 22 (fun K hK=>?_)
     go_simp
     go_at_call 157
     refine (hI _).mono ?_
     rintro e w3 ⟨rfl,hb⟩
     refine hK.out _ _ (ah.trans (hb.mono ah.size)) (fun ah=>?_)
     clear hK K hb
     refine tk 23 ah ?_
     refine tk 24 ah ?_
     refine tk 25 ah ?_
     refine tk 26 ah ?_
     refine tk 27 ah ?_
     refine tk 28 ah ?_
     refine tk 29 ah ?_
     refine tk 30 ah ?_
     refine tk 31 ah ?_
     refine tk 32 ah ?_
     refine tk 33 ah ?_ (hy:=fun w aj=>by (try dsimp only at aj);have k0:=(aj.cell (p:=⟨g',o'+j*4,none⟩) hgl).trans p0;have k1:=(aj.cell (p:=⟨g',o'+j*4+1,none⟩) hgl).trans p1;have k2:=(aj.cell (p:=⟨g',o'+j*4+2,none⟩) hgl).trans p2;have k3:=(aj.cell (p:=⟨g',o'+j*4+3,none⟩) hgl).trans p3;clear aj;go_simp;try with_reducible rfl)
     refine tk 34 ah ?_
     refine tk 35 ah ?_
     refine tk 36 ah ?_
     refine tk 37 ah ?_ (hy:=fun w aj=>by (try dsimp only at aj);have k0:=(aj.cell (p:=⟨g',o'+k*4,none⟩) hgl).trans e0;have k1:=(aj.cell (p:=⟨g',o'+k*4+1,none⟩) hgl).trans e1;have k2:=(aj.cell (p:=⟨g',o'+k*4+2,none⟩) hgl).trans e2;have k3:=(aj.cell (p:=⟨g',o'+k*4+3,none⟩) hgl).trans e3;clear aj;go_simp;try with_reducible rfl)
     refine dw 38 (fun K hK=>?_)
     go_simp
     go_at_call 164
     refine (hZ _).mono ?_
     rintro e w4 ⟨rfl,hb⟩
     refine hK.out _ _ (ah.trans (hb.mono ah.size)) (fun ah=>?_)
     clear hK K hb
     refine tk 39 ah ?_
     refine tk 40 ah ?_
     refine tk 41 ah ?_
     refine dQ ?_
     have HF:=ak ah
     clear ah
     have HB2:=ak (HB.out.trans (HF.out.mono hsz))
     have e0':=(HF.out.cell (p:=⟨g',o'+k*4,none⟩) hgl).trans e0
     have e1':=(HF.out.cell (p:=⟨g',o'+k*4+1,none⟩) hgl).trans e1
     have p0':=(HF.out.cell (p:=⟨g',o'+j*4,none⟩) hgl).trans p0
     have p1':=(HF.out.cell (p:=⟨g',o'+j*4+1,none⟩) hgl).trans p1
     clear e0 e1 e2 e3 p0 p1 p2 p3 hL hN hI hZ
     cases b with
     | true=>
      have HR:=ak (QU HO.out.2 (by have:=HJ.out;omega) HY.out HX.out (of_decide_eq_true hb))
      clear hb
      by_cases h6:c=6
      ·have HN:=ak (jI HX.out fun h=>by have:=(EP HO.out.1 HX.out kX.out HLU.out HR.out).2 h.2.2;omega)
       have hd6:decide ((6:Int)<(c:Int)+1)=true:=eD (by omega)
       clear h6
       go_wp2_with fail
       go_quiet (fail)
       all_goals
        go_wp2
        go_ret
        exact aB HN.out (by first | exact HB2.out | exact HB2.out.drew | exact fD HB2.out _)
      ·have HS:=ak (lM HO.out.1 HX.out ⟨kX.out,HLU.out,(EP HO.out.1 HX.out kX.out HLU.out HR.out).1 (by omega)⟩)
       have hd6:decide ((6:Int)<(c:Int)+1)=false:=dS (by omega)
       go_wp2_with fail
       go_quiet (fail)
       all_goals
        go_wp2
        go_roundw
        case rel=>exact ⟨k+1,c+1,by omega,by go_num,by go_num,by omega,ak ⟨HS.out,HR.out⟩,by first | exact HB2.out | exact HB2.out.drew | exact fD HB2.out _⟩
        case measure=>simp [intOf];omega
     | false=>
      have HR:=ak (He HX.out fun u h hu he=>by rw [HY.out] at hu;cases hu;exact of_decide_eq_false hb he)
      have HS:=ak (lM HO.out.1 HX.out ⟨kX.out,HLU.out,(EP HO.out.1 HX.out kX.out HLU.out HR.out).1 (by omega)⟩)
      clear hb
      go_wp2_with fail
      go_quiet (fail)
      all_goals
       go_wp2
       go_roundw
       case rel=>exact ⟨k+1,1,by omega,by go_num,by go_num,by omega,ak ⟨HS.out,HR.out⟩,by first | exact HB2.out | exact HB2.out.drew | exact fD HB2.out _⟩
       case measure=>simp [intOf];omega
  ·have hdl:decide ((k:Int)<(L.length:Int))=false:=dS (by omega)
   obtain rfl:k=L.length:=by omega
   have HY:=ak (DI h48 HO.out.1)
   clear hB
   go_wp2
   go_ret
   exact bM HY.out HB.out
end
end aQ
namespace gB
section
open Go.Shelf Go.RowKit aQ Go.Lib Go.Sort
def sO (a b:ByteArray):Int:=if Cv a b=true then -1 else if Cv b a=true then 1 else 0
theorem Ua (a:ByteArray)(w:World):Calls Tryz.prog 263 #[.string a] w fun e w'=>e=.returned (.bool false)∧w'=w:=by
 go_enter Tryz.func263,Tryz.ntmps263
 go_wp2
 go_ret
 exact ⟨by simp,rfl⟩
theorem WV (a b:ByteArray)(w:World):Calls Tryz.prog 242 #[.string a,.string b] w fun e w'=>e=.returned (.int .i64 (sO a b))∧w'=w:=by
 cases h1:Cv a b with
 | true=>
  have HE:=ak (show sO a b=-1 from if_pos h1)
  have hl:Op.bytesLess a.toList b.toList=true:=h1
  clear h1
  go_enter Tryz.func242,Tryz.ntmps242
  go_wp2_with (go_at_call 263;refine (Ua _ _).mono ?_;rintro e w' ⟨rfl,rfl⟩)
  go_ret
  exact ⟨by rw [HE.out];rfl,rfl⟩
 | false=>
  have hl:Op.bytesLess a.toList b.toList=false:=h1
  cases h2:Cv b a with
  | true=>
   have HE:=ak (show sO a b=1 from by unfold sO;rw [if_neg (by rw [h1];decide),if_pos h2])
   have he:(a.toList==b.toList)=false:=by
    rw [Bool.eq_false_iff]
    intro h
    have:=Vp (eq_of_beq h)
    rw [this,uY] at h2
    cases h2
   clear h1 h2
   go_enter Tryz.func242,Tryz.ntmps242
   go_wp2_with (go_at_call 263;refine (Ua _ _).mono ?_;rintro e w' ⟨rfl,rfl⟩)
   go_ret
   exact ⟨by rw [HE.out];rfl,rfl⟩
  | false=>
   have HE:=ak (show sO a b=0 from by unfold sO;rw [if_neg (by rw [h1];decide),if_neg (by rw [h2];decide)])
   have he:(a.toList==b.toList)=true:=by rw [NR h1 h2];simp
   clear h1 h2
   go_enter Tryz.func242,Tryz.ntmps242
   go_wp2_with (go_at_call 263;refine (Ua _ _).mono ?_;rintro e w' ⟨rfl,rfl⟩)
   go_ret
   exact ⟨by rw [HE.out];rfl,rfl⟩
theorem zW (a0 a1 b0 b1:Int)(V:World):Calls Tryz.prog 230 #[.agg #[.int .i64 a0,.int .i64 a1],.agg #[.int .i64 b0,.int .i64 b1]] V fun e w'=>e=.returned (.int .i64 (jT a0 a1 b0 b1))∧w'=((((V.alloc (.cells #[.int .i64 a0,.int .i64 a1] 49)).alloc (.cells #[.int .i64 b0,.int .i64 b1] 49)).drew).alloc (.cells #[.int .i64 (Lib.compareInt a0 b0),.int .i64 (Lib.compareInt a1 b1)] 3))∧RowKit.Below V.heap.size V w':=
 (zV a0 a1 b0 b1 V).mono fun e w' ⟨h1,h2⟩=>⟨h1,h2,by rw [h2];exact (((RowKit.Below.refl V.heap.size V).alloc (bK _) _).alloc (by simp) _).drew.alloc (by simp;omega) _⟩
def accI (a0 a1:Int)(a2:ByteArray)(b0 b1:Int)(b2:ByteArray):Int:=O9 [jT a0 a1 b0 b1,sO a2 b2]
theorem aak (a0 a1 b0 b1:Int)(a2 b2:ByteArray)(W:World) :
 Calls Tryz.prog 199 #[.agg #[.int .i64 a0,.int .i64 a1,.string a2],.agg #[.int .i64 b0,.int .i64 b1,.string b2]] W
  fun e w'=>e=.returned (.int .i64 (accI a0 a1 a2 b0 b1 b2))∧w'=(((((((W.alloc (.cells #[.int .i64 a0,.int .i64 a1,.string a2] 228)).alloc (.cells #[.int .i64 b0,.int .i64 b1,.string b2] 228)).drew.alloc (.cells #[.int .i64 a0,.int .i64 a1] 49)).alloc (.cells #[.int .i64 b0,.int .i64 b1] 49)).drew).alloc (.cells #[.int .i64 (Lib.compareInt a0 b0),.int .i64 (Lib.compareInt a1 b1)] 3)).alloc (.cells #[.int .i64 (jT a0 a1 b0 b1),.int .i64 (sO a2 b2)] 3)):=by
 obtain ⟨V0,xw⟩:∃ V0,V0=((W.alloc (.cells #[.int .i64 a0,.int .i64 a1,.string a2] 228)).alloc (.cells #[.int .i64 b0,.int .i64 b1,.string b2] 228)):=⟨_,rfl⟩
 have HV:=ak xw
 have BA:=ak (show aO V0 W.heap.size 228 #[.int .i64 a0,.int .i64 a1,.string a2] from by rw [xw];exact (aO.new W _ _).alloc _)
 have BB:=ak (show aO V0 (W.heap.size+1) 228 #[.int .i64 b0,.int .i64 b1,.string b2] from by
  have h9:=aO.new (W.alloc (.cells #[.int .i64 a0,.int .i64 a1,.string a2] 228)) 228 #[.int .i64 b0,.int .i64 b1,.string b2]
  simp only [World.size_alloc] at h9
  rw [xw];exact h9)
 go_enter Tryz.func199,Tryz.ntmps199
 go_wp2_with fail
 rw [←xw]
 clear xw
 refine dX (S:=(fun V=>Below (V0).heap.size (V0) V)) (by kernel_rfl) ((aW _ _).drew) (fun ah=>?_)
 refine tk 0 ah ?_
 refine tk 1 ah ?_ (hy:=fun w aj=>by (try dsimp only at aj);have k0:=BA.out.hat aj 0 rfl;have k1:=BA.out.hat aj 1 rfl;clear aj;go_simp;try with_reducible rfl)
 refine tk 2 ah ?_
 refine tk 3 ah ?_ (hy:=fun w aj=>by (try dsimp only at aj);have k0:=BB.out.hat aj 0 rfl;have k1:=BB.out.hat aj 1 rfl;clear aj;go_simp;try with_reducible rfl)
 refine tk 5 ah ?_
 refine tk 6 ah ?_ (hy:=fun w aj=>by (try dsimp only at aj);have k0:=BA.out.hat aj 2 rfl;clear aj;go_simp;try with_reducible rfl)
 refine tk 7 ah ?_
 refine tk 8 ah ?_ (hy:=fun w aj=>by (try dsimp only at aj);have k0:=BB.out.hat aj 2 rfl;clear aj;go_simp;try with_reducible rfl)
 refine dw 4 (fun K hK=>?_)
 go_simp
 go_at_call 230
 refine (zW a0 a1 b0 b1 _).mono ?_
 rintro e w1 ⟨rfl,hw1,hb⟩
 have HV1:=ak hw1
 clear hw1
 refine hK.out _ _ (ah.trans (hb.mono ah.size)) (fun ah=>?_)
 clear hK K hb
 refine dw 9 (fun K hK=>?_)
 go_simp
 go_at_call 242
 refine (WV a2 b2 _).mono ?_
 rintro e w2 ⟨rfl,rfl⟩
 have hb:=aW w2.heap.size w2
 refine hK.out _ _ (ah.trans (hb.mono ah.size)) (fun ah=>?_)
 clear hK K hb
 refine dw 10 (fun K hK=>?_)
 go_simp
 have hb:=(aW w2.heap.size w2).alloc (bK _) (.cells #[.int .i64 (jT a0 a1 b0 b1),.int .i64 (sO a2 b2)] 3)
 have Dn:=ak (aO.new w2 3 #[.int .i64 (jT a0 a1 b0 b1),.int .i64 (sO a2 b2)])
 refine hK.out _ _ (ah.trans (hb.mono ah.size)) (fun ah=>?_)
 clear hK K hb
 refine dw 11 (fun K hK=>?_)
 go_simp
 go_at_call 241
 refine (T9 _ _ _ _ Dn.out).mono ?_
 rintro e w3 ⟨rfl,rfl⟩
 have hb:=aW (w2.alloc (.cells #[.int .i64 (jT a0 a1 b0 b1),.int .i64 (sO a2 b2)] 3)).heap.size (w2.alloc (.cells #[.int .i64 (jT a0 a1 b0 b1),.int .i64 (sO a2 b2)] 3))
 refine hK.out _ _ (ah.trans (hb.mono ah.size)) (fun ah=>?_)
 clear hK K hb
 refine tk 12 ah ?_
 refine dQ ?_
 have HF:=ak ah
 clear ah
 go_wp2
 go_ret
 exact ⟨rfl,by rw [HV1.out,HV.out]⟩
abbrev AC:=(Int×Int)×ByteArray
def cfA (x y:AC):Int:=accI x.1.1 x.1.2 x.2 y.1.1 y.1.2 y.2
def ltA (x y:AC):Prop:=jY x.1 y.1∨(x.1=y.1∧Cv x.2 y.2=true)
theorem LQ (a0 a1 b0 b1:Int):(jT a0 a1 b0 b1=-1∧jY (a0,a1) (b0,b1))∨(jT a0 a1 b0 b1=0∧((a0,a1):Int×Int)=(b0,b1))∨(jT a0 a1 b0 b1=1∧jY (b0,b1) (a0,a1)):=by
 unfold jT O9 jY
 rcases EH a0 b0 with ⟨e1,h1⟩ | ⟨e1,h1⟩ | ⟨e1,h1⟩ <;> rcases EH a1 b1 with ⟨e2,h2⟩ | ⟨e2,h2⟩ | ⟨e2,h2⟩ <;> rw [e1,e2] <;> simp <;> omega
theorem Mf (a b:ByteArray):(sO a b=-1∧Cv a b=true)∨(sO a b=0∧a=b)∨(sO a b=1∧Cv b a=true):=by
 unfold sO
 cases h1:Cv a b
 ·cases h2:Cv b a
  ·right;left;exact ⟨by simp,NR h1 h2⟩
  ·right;right;exact ⟨by simp,rfl⟩
 ·left;exact ⟨by simp,rfl⟩
theorem LH {a b:ay}(h1:jY a b):¬jY b a:=fun h2=>iH (qd h1 h2)
theorem ZX {a b:ay}(h1:jY a b):a≠b:=fun e=>by rw [e] at h1;exact iH h1
theorem aae (x y:AC):cfA x y<0↔ltA x y:=by
 obtain ⟨⟨a0,a1⟩,a2⟩:=x
 obtain ⟨⟨b0,b1⟩,b2⟩:=y
 unfold cfA accI ltA O9
 rcases LQ a0 a1 b0 b1 with ⟨e1,h1⟩ | ⟨e1,h1⟩ | ⟨e1,h1⟩
 ·simp [e1,h1]
 ·rcases Mf a2 b2 with ⟨e2,h2⟩ | ⟨e2,h2⟩ | ⟨e2,h2⟩
  ·simp [e1,e2,h1,h2]
  ·subst h2;simp [e1,e2,h1,uY,iH]
  ·simp [e1,e2,h1,QN h2,iH]
 ·simp [e1,LH h1,(ZX h1).symm]
theorem aap (x y:AC):0≤cfA x y↔¬ltA x y:=by rw [←aae];omega
end
end gB
namespace aQ
section
open Go.RowKit bN bO bJ bQ eO gB
theorem Ng {x0 x1 x3:Int}{x2:ByteArray}(W:World):Calls Tryz.prog 200 #[.agg #[.int .i64 x0,.int .i64 x1,.string x2,.int .i64 x3]] W fun e w'=>e=.returned (.agg #[.int .i64 x0,.int .i64 x1,.string x2])∧Below W.heap.size W w':=by
 go_enter Tryz.func200,Tryz.ntmps200
 go_wp2
 refine qC (v:=.agg #[.int .i64 x0,.int .i64 x1,.string x2]) (by simp [results,Tryz.results200,go_sem]) rfl ⟨rfl,?_⟩
 repeat (first | exact aW _ _ | refine Below.setCell ?_ (by first | omega | (simp;done) | (simp;omega)) _ | refine Below.alloc ?_ (by first | omega | (simp;done) | (simp;omega)) _)
theorem aaj (a0 a1 b0 b1:Int)(a2 b2:ByteArray)(W:World):Calls Tryz.prog 199 #[.agg #[.int .i64 a0,.int .i64 a1,.string a2],.agg #[.int .i64 b0,.int .i64 b1,.string b2]] W fun e w'=>e=.returned (.int .i64 (cfA ((a0,a1),a2) ((b0,b1),b2)))∧Below W.heap.size W w':=
 (aak a0 a1 b0 b1 a2 b2 W).mono fun e w' ⟨h1,h2⟩=>⟨h1,by
  rw [h2]
  exact (((((((aW W.heap.size W).alloc (bK _) _).alloc (by simp) _).drew.alloc (by simp;omega) _).alloc (by simp;omega) _).drew.alloc (by simp;omega) _).alloc (by simp;omega) _)⟩
theorem Qu {L:List bI}{a:Option Addr}{cap:Nat}{W:World}(h:aJ bC W W.heap.size L a cap) :
 Calls Tryz.prog 133 #[.slice a L.length cap] W (sS (Dq L) W):=by
 refine Calls.mono ?_ fun e w' h=>rT lK h
 have hn:=U3 h
 have H:=ak h
 clear h
 by_cases h48:L.length≤48
 rotate_left
 ·have HN:=ak (show ¬yL L from fun h=>h48 h.1)
  have hd:decide ((48:Int)<(L.length:Int))=true:=eD (by omega)
  go_enter Tryz.func133,Tryz.ntmps133
  go_wp2
  go_ret
  exact aB HN.out (aW _ _)
 have hd:decide ((48:Int)<(L.length:Int))=false:=dS (by omega)
 go_enter Tryz.func133,Tryz.ntmps133
 go_wp2
 go_loopw [10] (fun i wr=>∃ k:Nat,k≤L.length∧i=.int .i64 k∧Hid (Gc L k)∧Below W.heap.size W wr) (fun i _=>L.length-(intOf i).toNat)
 case atStart=>exact ⟨0,dV _,rfl,ak DJ,aW _ _⟩
 case round=>
  obtain ⟨k,hk,rfl,HO,hB⟩:=hrel
  obtain ⟨wo,rfl⟩:∃ x,x=wr:=⟨_,rfl⟩
  have HB:=ak hB
  have hsz:=hB.size
  by_cases hlt:k<L.length
  ·skip
   obtain ⟨⟨⟨x0,x1⟩,x2,x3⟩,hx⟩:=aM hlt
   have HX:=ak hx
   obtain ⟨g,o,us,rfl,hg,hu,hr⟩:=(H.out.below aU hB).at_ hx
   obtain ⟨rfl,oF⟩:=ku hr
   obtain ⟨e0,e1,e2,e3⟩:=Kn (a:=o+k*4) hu rfl
   have hi0:(0:Int)≤(k:Int):=eu _
   have hi1:(k:Int)<(L.length:Int):=by omega
   have HA:=ak ((H.out.below aU hB))
   obtain ⟨w1,hw1⟩:∃ w,w=wo.alloc (.cells #[.int .i64 x0,.int .i64 x1,.string x2,.int .i64 x3] 128):=⟨_,rfl⟩
   have iE:Below wo.heap.size wo w1:=by rw [hw1];exact (aW _ _).alloc (bK _) _
   have JV:=ak iE
   have HG:=ak (bV hg hsz)
   have cZ:=ak (show aO w1 wo.heap.size 128 #[.int .i64 x0,.int .i64 x1,.string x2,.int .i64 x3] from by rw [hw1];exact aO.new _ _ _)
   have HB1:=ak (HB.out.trans (iE.mono hsz))
   have hz1:=HB1.out.size
   obtain ⟨q0,q1,q2,q3⟩:=cZ.out.jE rfl
   clear hu hr hg hB hx
   have hL:=fun V=>dH.ri_w x0 x1 V
   have hN:=fun V=>ni_w x2 oF V
   have hI:=fun V=>ur_w x3 V
   go_wp2_with fail
   rw [←hw1]
   clear hw1 iE e0 e1 e2 e3
   refine (hL _).mono ?_
   rintro e w2 ⟨rfl,hb⟩
   have HB2:=ak (HB1.out.trans (hb.mono hz1))
   have iD:=ak (cZ.out.call hb)
   have hz2:=HB2.out.size
   have HS2:=ak hb.size
   clear hb q0 q1 q2 q3
   obtain ⟨q0,q1,q2,q3⟩:=iD.out.jE rfl
   cases h1:dH.rB x0 x1 with
   | false=>
    have HN:=ak (jI HX.out fun h=>by have:=h.1.1;simp only [h1] at this;cases this)
    clear h1
    go_wp2
    go_ret
    exact aB HN.out HB2.out
   | true=>
   have H1:=ak h1
   clear h1
   go_wp2_with fail
   refine (hN _).mono ?_
   rintro e w3 ⟨rfl,hb⟩
   have HB3:=ak (HB2.out.trans (hb.mono hz2))
   have iG:=ak (iD.out.call hb)
   have hz3:=HB3.out.size
   have vH:=ak hb.size
   clear hb q0 q1 q2 q3
   obtain ⟨q0,q1,q2,q3⟩:=iG.out.jE rfl
   cases h2:j4 x2 with
   | false=>
    have HN:=ak (jI HX.out fun h=>by have:=jS.2 h.1.2.1;simp only [h2] at this;cases this)
    clear h2
    go_wp2
    go_ret
    exact aB HN.out HB3.out
   | true=>
   have H2:=ak (jS.1 h2)
   clear h2
   go_wp2_with fail
   refine (hI _).mono ?_
   rintro e w4 ⟨rfl,hb⟩
   have jL:=ak (HB3.out.trans (hb.mono hz3))
   have j5:=ak (iG.out.call hb)
   have lW:=jL.out.size
   have HS4z:=ak hb.size
   clear hb q0 q1 q2 q3
   obtain ⟨q0,q1,q2,q3⟩:=j5.out.jE rfl
   cases h3:dD x3 1 100000 with
   | false=>
    have HN:=ak (jI HX.out fun h=>by have:=h.1.2.2;simp only [h3] at this;cases this)
    clear h3
    go_wp2
    go_ret
    exact aB HN.out jL.out
   | true=>
   have kX:=ak (show okU ((x0,x1),x2,x3) from ⟨H1.out,H2.out,h3⟩)
   clear h3
   have HA4:=ak (H.out.below aU jL.out)
   have HG4:=ak (show g<w4.heap.size from bV HG.out (eF JV.out.size (show w1.heap.size≤w4.heap.size from eF HS2.out (eF vH.out HS4z.out))))
   clear q0 q1 q2 q3 hL hN hI
   by_cases hk0:k=0
   ·have hkp:¬0<k:=by omega
    have hd0:decide ((0:Int)<(k:Int))=false:=dS (by omega)
    have hk6:¬6≤k:=by omega
    have hd6:decide ((6:Int)≤(k:Int))=false:=dS (by omega)
    have HS:=ak (lM HO.out HX.out ⟨kX.out,fun y h=>by omega,fun y h=>by omega⟩)
    clear hk0
    go_wp2_with fail
    refine dX (S:=(fun V=>Below (w4).heap.size (w4) V)) (by kernel_rfl) ((aW _ _).drew) (fun ah=>?_)
    refine tk 0 ah ?_
    refine tk 1 ah ?_
    refine tk 2 ah ?_
    refine tn 3 ah ?_
    refine tn 4 ah ?_
    refine tn 5 ah ?_
    refine tn 6 ah ?_
    refine tn 7 ah ?_
    refine tn 8 ah ?_
    refine tn 9 ah ?_
    refine tn 10 ah ?_
    refine tn 11 ah ?_
    refine tn 12 ah ?_
    refine tk 13 ah ?_
    refine dQ ?_
    have HF:=ak ah
    clear ah
    have lX:=ak (jL.out.trans (HF.out.mono lW))
    go_wp2_with fail
    go_quiet (fail)
    all_goals
     go_wp2
     go_roundw
     case rel=>exact ⟨k+1,by omega,by go_num,HS,by first | exact lX.out | exact lX.out.drew | exact fD jL.out _ | exact fD lX.out _⟩
     case measure=>simp [intOf];omega
   ·have hkp:0<k:=by omega
    have hd0:decide ((0:Int)<(k:Int))=true:=eD (by omega)
    obtain ⟨j,hj⟩:∃ j,k=j+1:=⟨k-1,by omega⟩
    have HJ:=ak hj
    obtain ⟨⟨⟨y0,y1⟩,y2,y3⟩,hy⟩:=aM (show j<L.length by omega)
    have HY:=ak (show L[k-1]? = some ((y0,y1),y2,y3) from by rw [hj,Nat.add_sub_cancel];exact hy)
    obtain ⟨g',o',us',hgo,hg',hu',hr'⟩:=HA4.out.at_ hy
    obtain ⟨rfl,rfl⟩:g'=g∧o'=o:=by cases hgo;exact ⟨rfl,rfl⟩
    obtain ⟨rfl,b_y2⟩:=ku hr'
    have p0:w4.cell? ⟨g',o'+j*4,none⟩=some (.int .i64 y0):=by simpa [dK,Nat.add_assoc] using hu' 0 _ rfl
    have p1:w4.cell? ⟨g',o'+j*4+1,none⟩=some (.int .i64 y1):=by simpa [dK,Nat.add_assoc] using hu' 1 _ rfl
    have p2:w4.cell? ⟨g',o'+j*4+2,none⟩=some (.string y2):=by simpa [dK,Nat.add_assoc] using hu' 2 _ rfl
    have p3:w4.cell? ⟨g',o'+j*4+3,none⟩=some (.int .i64 y3):=by simpa [dK,Nat.add_assoc] using hu' 3 _ rfl
    have hjs:(k:Int)-1=(j:Int):=by omega
    have hj0:(0:Int)≤(j:Int):=eu _
    have hj1:(j:Int)<(L.length:Int):=by omega
    have XF:IntKind.i64.wrap (j:Int)=(j:Int):=gK _ (by omega)
    obtain ⟨c,hc⟩:∃ c,cfA ((y0,y1),y2) ((x0,x1),x2)=c:=⟨_,rfl⟩
    have hC:=fun V=>aaj y0 y1 x0 x1 y2 x2 V
    rw [hc] at hC
    have HC:=ak (show 0≤c↔¬ltU ((y0,y1),y2,y3) ((x0,x1),x2,x3) from by rw [←hc];exact aap _ _)
    clear hgo hg' hu' hr' hy hj hk0 hc
    by_cases hz:0≤c
    ·have HN:=ak (jI HX.out fun h=>HC.out.1 hz (h.2.1 _ (by have:=HJ.out;omega) HY.out))
     have hge:decide (0≤c)=true:=eD hz
     go_wp2_with fail
     refine dX (S:=(fun V=>Below (w4).heap.size (w4) V)) (by kernel_rfl) ((aW _ _).drew) (fun ah=>?_)
     refine tk 0 ah ?_
     refine tk 1 ah ?_
     refine tk 2 ah ?_
     refine tk 3 ah ?_
     refine tk 4 ah ?_
     refine tk 5 ah ?_
     refine tk 6 ah ?_
     refine tk 7 ah ?_ (hy:=fun w aj=>by (try dsimp only at aj);have k0:=(aj.cell (p:=⟨g',o'+j*4,none⟩) HG4.out).trans p0;have k1:=(aj.cell (p:=⟨g',o'+j*4+1,none⟩) HG4.out).trans p1;have k2:=(aj.cell (p:=⟨g',o'+j*4+2,none⟩) HG4.out).trans p2;have k3:=(aj.cell (p:=⟨g',o'+j*4+3,none⟩) HG4.out).trans p3;clear aj;go_simp;try with_reducible rfl)
     refine tk 9 ah ?_ (hy:=fun w aj=>by (try dsimp only at aj);have k0:=j5.out.hat aj 0 rfl;have k1:=j5.out.hat aj 1 rfl;have k2:=j5.out.hat aj 2 rfl;have k3:=j5.out.hat aj 3 rfl;clear aj;go_simp;try with_reducible rfl)
     refine dw 8 (fun K hK=>?_)
     go_simp
     go_at_call 200
     refine (Ng (x3:=y3) _).mono ?_
     rintro e w5 ⟨rfl,hb⟩
     refine hK.out _ _ (ah.trans (hb.mono ah.size)) (fun ah=>?_)
     clear hK K hb
     refine dw 10 (fun K hK=>?_)
     go_simp
     go_at_call 200
     refine (Ng (x3:=x3) _).mono ?_
     rintro e w6 ⟨rfl,hb⟩
     refine hK.out _ _ (ah.trans (hb.mono ah.size)) (fun ah=>?_)
     clear hK K hb
     refine dw 11 (fun K hK=>?_)
     go_simp
     go_at_call 199
     refine (hC _).mono ?_
     rintro e w7 ⟨rfl,hb⟩
     refine hK.out _ _ (ah.trans (hb.mono ah.size)) (fun ah=>?_)
     clear hK K hb
     refine tk 12 ah ?_
     refine tk 13 ah ?_
     refine dQ ?_
     have HF:=ak ah
     clear ah
     have lX:=ak (jL.out.trans (HF.out.mono lW))
     go_wp2
     go_ret
     exact aB HN.out lX.out
    ·have HLT:=ak (Classical.not_not.1 fun h=>hz (HC.out.2 h))
     have hge:decide (0≤c)=false:=dS hz
     have HLU:=ak (fun (u:bI) (_:0<k) (hu:L[k-1]? = some u)=>show ltU u ((x0,x1),x2,x3) from by rw [HY.out] at hu;cases hu;exact HLT.out)
     go_wp2_with fail
     refine dX (S:=(fun V=>Below (w4).heap.size (w4) V)) (by kernel_rfl) ((aW _ _).drew) (fun ah=>?_)
     refine tk 0 ah ?_
     refine tk 1 ah ?_
     refine tk 2 ah ?_
     refine tk 3 ah ?_
     refine tk 4 ah ?_
     refine tk 5 ah ?_
     refine tk 6 ah ?_
     refine tk 7 ah ?_ (hy:=fun w aj=>by (try dsimp only at aj);have k0:=(aj.cell (p:=⟨g',o'+j*4,none⟩) HG4.out).trans p0;have k1:=(aj.cell (p:=⟨g',o'+j*4+1,none⟩) HG4.out).trans p1;have k2:=(aj.cell (p:=⟨g',o'+j*4+2,none⟩) HG4.out).trans p2;have k3:=(aj.cell (p:=⟨g',o'+j*4+3,none⟩) HG4.out).trans p3;clear aj;go_simp;try with_reducible rfl)
     refine tk 9 ah ?_ (hy:=fun w aj=>by (try dsimp only at aj);have k0:=j5.out.hat aj 0 rfl;have k1:=j5.out.hat aj 1 rfl;have k2:=j5.out.hat aj 2 rfl;have k3:=j5.out.hat aj 3 rfl;clear aj;go_simp;try with_reducible rfl)
     refine dw 8 (fun K hK=>?_)
     go_simp
     go_at_call 200
     refine (Ng (x3:=y3) _).mono ?_
     rintro e w5 ⟨rfl,hb⟩
     refine hK.out _ _ (ah.trans (hb.mono ah.size)) (fun ah=>?_)
     clear hK K hb
     refine dw 10 (fun K hK=>?_)
     go_simp
     go_at_call 200
     refine (Ng (x3:=x3) _).mono ?_
     rintro e w6 ⟨rfl,hb⟩
     refine hK.out _ _ (ah.trans (hb.mono ah.size)) (fun ah=>?_)
     clear hK K hb
     refine dw 11 (fun K hK=>?_)
     go_simp
     go_at_call 199
     refine (hC _).mono ?_
     rintro e w7 ⟨rfl,hb⟩
     refine hK.out _ _ (ah.trans (hb.mono ah.size)) (fun ah=>?_)
     clear hK K hb
     refine tk 12 ah ?_
     refine tk 13 ah ?_
     refine dQ ?_
     have HF:=ak ah
     clear ah
     have rR:=ak (jL.out.trans (HF.out.mono lW))
     have HP7:=ak (j5.out.call HF.out)
     have HA7:=ak (H.out.below aU rR.out)
     clear p0 p1 p2 p3 hC hjs hj0 hj1 XF hge hz
     by_cases h6:6≤k
     rotate_left
     ·have hd6:decide ((6:Int)≤(k:Int))=false:=dS (by omega)
      have HS:=ak (lM HO.out HX.out ⟨kX.out,HLU.out,fun y h=>absurd h h6⟩)
      go_wp2_with fail
      go_quiet (fail)
      all_goals
       go_wp2
       go_roundw
       case rel=>exact ⟨k+1,by omega,by go_num,HS,by first | exact rR.out | exact rR.out.drew | exact fD rR.out _⟩
       case measure=>simp [intOf];omega
     ·have hd6:decide ((6:Int)≤(k:Int))=true:=eD (by omega)
      obtain ⟨q,hq⟩:∃ q,k=q+6:=⟨k-6,by omega⟩
      obtain ⟨⟨⟨z0,z1⟩,z2,z3⟩,hy⟩:=aM (show q<L.length by omega)
      have HQ:=ak (show L[k-6]? = some ((z0,z1),z2,z3) from by rw [hq,Nat.add_sub_cancel];exact hy)
      obtain ⟨g,o,us',hgo,hg',hu',hr'⟩:=HA7.out.at_ hy
      obtain ⟨rfl,rfl⟩:g'=g∧o'=o:=by cases hgo;exact ⟨rfl,rfl⟩
      obtain ⟨rfl,b_z2⟩:=ku hr'
      have p0:w7.cell? ⟨g',o'+q*4,none⟩=some (.int .i64 z0):=by simpa [dK,Nat.add_assoc] using hu' 0 _ rfl
      have p1:w7.cell? ⟨g',o'+q*4+1,none⟩=some (.int .i64 z1):=by simpa [dK,Nat.add_assoc] using hu' 1 _ rfl
      obtain ⟨q0,q1⟩:=HP7.out.kS rfl
      have hqs:(k:Int)-6=(q:Int):=by omega
      have hq0:(0:Int)≤(q:Int):=eu _
      have hq1:(q:Int)<(L.length:Int):=by omega
      have hqw:IntKind.i64.wrap (q:Int)=(q:Int):=gK _ (by omega)
      have HK6:=ak h6
      obtain ⟨b,hb⟩:∃ b,decide (((z0,z1):Int×Int)=(x0,x1))=b:=⟨_,rfl⟩
      have hqq:=iK z0 z1 x0 x1 b hb
      clear hgo hg' hu' hr' hy hq
      cases b with
      | true=>
       have HN:=ak (jI HX.out fun h=>h.2.2 _ HK6.out HQ.out (of_decide_eq_true hb))
       clear hb
       go_wp2_with fail
       go_quiet (fail)
       all_goals
        go_wp2
        go_ret
        exact aB HN.out (by first | exact rR.out | exact rR.out.drew | exact fD rR.out _)
      | false=>
       have HS:=ak (lM HO.out HX.out ⟨kX.out,HLU.out,fun y _ hy he=>by rw [HQ.out] at hy;cases hy;exact of_decide_eq_false hb he⟩)
       clear hb
       go_wp2_with fail
       go_quiet (fail)
       all_goals
        go_wp2
        go_roundw
        case rel=>exact ⟨k+1,by omega,by go_num,HS,by first | exact rR.out | exact rR.out.drew | exact fD rR.out _⟩
        case measure=>simp [intOf];omega
  ·have hdl:decide ((k:Int)<(L.length:Int))=false:=dS (by omega)
   obtain rfl:k=L.length:=by omega
   have HY:=ak (DI h48 HO.out)
   clear hB
   go_wp2
   go_ret
   exact bM HY.out HB.out
end
section
open Go.RowKit bN bO bJ bQ CF
theorem Fq {C:List (List ay)}{P:List bA}{Q:List aX}{hf:Int}{ca pa qa:Option Addr}{cc pc qc:Nat}{l s:Int}{W:World}(hC:aJ (Sl av) W W.heap.size C ca cc)(hP:aJ aT W W.heap.size P pa pc)(hQ:aJ aN W W.heap.size Q qa qc) :
 Calls Tryz.prog 105 #[.agg #[.slice ca C.length cc,.slice pa P.length pc,.slice qa Q.length qc,.int .i64 hf],.agg #[.int .i64 l,.int .i64 s]] W (Xt (AY C P Q hf (l,s)) W):=by
 obtain ⟨M,hM⟩:∃ M,AY C P Q hf (l,s)=M:=⟨_,rfl⟩
 have HM:=ak hM
 rw [hM]
 clear hM
 have hcn:C.length≤9223372036854775807:=by have h1:=hC.1;have h2:=hC.2.1;unfold maxLen at h2;omega
 have hpn:P.length≤9223372036854775807:=by have h1:=hP.1;have h2:=hP.2.1;unfold maxLen at h2;omega
 have hqn:Q.length≤9223372036854775807:=by have h1:=hQ.1;have h2:=hQ.2.1;unfold maxLen at h2;omega
 obtain ⟨K,hK⟩:∃ K,yI C P Q hf=K:=⟨_,rfl⟩
 have HKv:=ak (show M=(by classical exact if (l,s)∈K then gI Q (l,s) else 0) from by rw [←HM.out,←hK];rfl)
 have HK:=ak hK
 clear hK
 obtain ⟨w0,hw0⟩:∃ w,w=(W.alloc (.cells #[.slice ca C.length cc,.slice pa P.length pc,.slice qa Q.length qc,.int .i64 hf] 39)).alloc (.cells #[.int .i64 l,.int .i64 s] 49):=⟨_,rfl⟩
 have hb0:Below W.heap.size W w0:=by rw [hw0];exact ((aW _ _).alloc (bK _) _).alloc (by simp) _
 have x0:aO w0 (W.heap.size) 39 #[.slice ca C.length cc,.slice pa P.length pc,.slice qa Q.length qc,.int .i64 hf]:=by
  have h9:=aO.new W 39 #[.slice ca C.length cc,.slice pa P.length pc,.slice qa Q.length qc,.int .i64 hf]
  try simp only [World.size_alloc] at h9
  rw [hw0];exact (h9.alloc _)
 have X0:=ak x0
 have x1:aO w0 (W.heap.size+1) 49 #[.int .i64 l,.int .i64 s]:=by
  have h9:=aO.new (W.alloc (.cells #[.slice ca C.length cc,.slice pa P.length pc,.slice qa Q.length qc,.int .i64 hf] 39)) 49 #[.int .i64 l,.int .i64 s]
  try simp only [World.size_alloc] at h9
  rw [hw0];exact h9
 have X1:=ak x1
 have HC:=ak (aD (aZ au) hC hb0)
 have HP:=ak (aD aG hP hb0)
 have HQ:=ak (aD aC hQ hb0)
 have HB0:=ak hb0
 have hz0:=hb0.size
 clear hb0 hC hP hQ x0 x1
 go_enter Tryz.func105,Tryz.ntmps105
 go_wp2_with fail
 rw [←hw0]
 clear hw0
 refine dX (S:=(fun V=>Below (w0).heap.size (w0) V)) (by kernel_rfl) ((aW _ _).drew) (fun ah=>?_)
 refine tk 0 ah ?_ (hy:=fun w aj=>by (try dsimp only at aj);have k0:=X0.out.hat aj 0 rfl;have k1:=X0.out.hat aj 1 rfl;have k2:=X0.out.hat aj 2 rfl;have k3:=X0.out.hat aj 3 rfl;clear aj;go_simp;try with_reducible rfl)
 refine tk 2 ah ?_ (hy:=fun w aj=>by (try dsimp only at aj);have k0:=X1.out.hat aj 0 rfl;have k1:=X1.out.hat aj 1 rfl;clear aj;go_simp;try with_reducible rfl)
 refine dw 1 (fun K hK=>?_)
 go_simp
 go_at_call 168
 have hlo:=Dk (hf:=hf) (aD (aZ au) HC.out ah) (aD aG HP.out ah) (aD aC HQ.out ah)
 rw [HK.out] at hlo
 refine hlo.mono ?_
 intro e w2 h
 obtain ⟨la,lc,rfl,ho,hb⟩:=bL h
 have HL:=ak (ho.rd au (B:=w2.heap.size) fun k hk=>hk.2)
 clear h ho hlo
 refine hK.out _ _ (ah.trans (hb.mono ah.size)) (fun ah=>?_)
 clear hK K hb
 refine dw 3 (fun K hK=>?_)
 go_simp
 go_at_call 103
 refine (dW HL.out).mono ?_
 intro e w3 h
 obtain ⟨q,rfl,hq2,hb⟩:=bq h
 have HQq:=ak hq2
 clear h hq2
 refine hK.out _ _ (ah.trans (hb.mono ah.size)) (fun ah=>?_)
 clear hK K hb
 refine tk 4 ah ?_
 refine dQ ?_
 have HF:=ak ah
 clear ah
 have HB1:=ak (HB0.out.trans (HF.out.mono hz0))
 have Z0:=ak (X0.out.call HF.out)
 have Z1:=ak (X1.out.call HF.out)
 have xH:=ak (aD aC HQ.out HF.out)
 have hz1:=HB1.out.size
 clear HF
 rcases sD q HQq.out with ⟨hq,hm⟩ | ⟨hq,hm⟩
 rotate_left
 ·have HE:=ak (show M=0 from by rw [HKv.out];exact if_neg hm)
  obtain rfl:=HE.out
  clear hm
  subst hq
  go_wp2
  go_ret
  exact ⟨rfl,HB1.out⟩
 have HE:=ak (show M=gI Q (l,s) from by rw [HKv.out];exact if_pos hm)
 clear hm
 subst hq
 have p2:=Z0.out.at_ 2 rfl
 go_wp2
 go_loopw [5] (fun i wr=>∃ k:Nat,k≤Q.length∧i=.int .i64 k∧Hid (∀ (j:Nat) y,j<k→Q[j]? = some y→y.1≠(l,s))∧Below w3.heap.size w3 wr) (fun i _=>Q.length-(intOf i).toNat)
 case atStart=>exact ⟨0,dV _,rfl,ak fun j y h=>absurd h (gZ _),aW _ _⟩
 case round=>
  obtain ⟨k,hk,rfl,HA,hB⟩:=hrel
  obtain ⟨wo,rfl⟩:∃ x,x=wr:=⟨_,rfl⟩
  have HB:=ak hB
  have hsz:=hB.size
  have Y0:=ak (Z0.out.call hB)
  have Y1:=ak (Z1.out.call hB)
  have q2:=Y0.out.at_ 2 rfl
  by_cases hlt:k<Q.length
  ·have hdl:decide ((k:Int)<(Q.length:Int))=true:=eD (by omega)
   obtain ⟨⟨⟨x0,x1⟩,x2⟩,hx⟩:=aM hlt
   have HX:=ak hx
   obtain ⟨g,o,us,rfl,hg,hu,hr⟩:=(aD aC xH.out hB).at_ hx
   obtain rfl:=jm hr
   obtain ⟨e0,e1,e2⟩:=Ko (a:=o+k*3) hu rfl
   have HG:=ak hg
   have hi0:(0:Int)≤(k:Int):=eu _
   have hi1:(k:Int)<(Q.length:Int):=by omega
   obtain ⟨b,hb⟩:∃ b,decide (((x0,x1):Int×Int)=(l,s))=b:=⟨_,rfl⟩
   have hE:=iK x0 x1 l s b hb
   have HBE:=ak hb
   clear hB hx hu hr hg hb p2
   cases b with
   | false=>
    have HA2:=ak (show ∀ (j:Nat) y,j<k+1→Q[j]? = some y→y.1≠(l,s) from fun j y hj hy=>by
     by_cases e:j=k
     ·subst e;rw [HX.out] at hy;obtain rfl:=fC hy
      exact of_decide_eq_false HBE.out
     ·exact HA.out j y (by omega) hy)
    go_wp2_with fail
    refine dX (S:=(fun V=>Below (wo).heap.size (wo) V)) (by kernel_rfl) ((aW _ _).drew) (fun ah=>?_)
    refine tk 0 ah ?_
    refine tk 1 ah ?_ (hy:=fun w aj=>by (try dsimp only at aj);have k0:=Y0.out.hat aj 2 rfl;clear aj;go_simp;try with_reducible rfl)
    refine tk 2 ah ?_
    refine tk 3 ah ?_
    refine tk 4 ah ?_
    refine tk 5 ah ?_ (hy:=fun w aj=>by (try dsimp only at aj);have k0:=(aj.cell (p:=⟨g,o+k*3,none⟩) HG.out).trans e0;have k1:=(aj.cell (p:=⟨g,o+k*3+1,none⟩) HG.out).trans e1;clear aj;go_simp;try with_reducible rfl)
    refine tk 6 ah ?_ (hy:=fun w aj=>by (try dsimp only at aj);have k0:=Y1.out.hat aj 0 rfl;have k1:=Y1.out.hat aj 1 rfl;clear aj;go_simp;try with_reducible rfl)
    refine tk 7 ah ?_
    refine dQ ?_
    have HF:=ak ah
    clear ah
    have HB3:=ak (HB.out.trans (HF.out.mono hsz))
    clear HF e0 e1 e2 q2
    go_wp2
    go_roundw
    case rel=>exact ⟨k+1,by omega,by go_num,HA2,HB3.out⟩
    case measure=>simp [intOf];omega
   | true=>
    have HV:=ak (show M=x2 from by rw [HE.out];exact yU HX.out (of_decide_eq_true HBE.out) HA.out)
    obtain rfl:=HV.out
    go_wp2_with fail
    refine dX (S:=(fun V=>Below (wo).heap.size (wo) V)) (by kernel_rfl) ((aW _ _).drew) (fun ah=>?_)
    refine tk 0 ah ?_
    refine tk 1 ah ?_ (hy:=fun w aj=>by (try dsimp only at aj);have k0:=Y0.out.hat aj 2 rfl;clear aj;go_simp;try with_reducible rfl)
    refine tk 2 ah ?_
    refine tk 3 ah ?_
    refine tk 4 ah ?_
    refine tk 5 ah ?_ (hy:=fun w aj=>by (try dsimp only at aj);have k0:=(aj.cell (p:=⟨g,o+k*3,none⟩) HG.out).trans e0;have k1:=(aj.cell (p:=⟨g,o+k*3+1,none⟩) HG.out).trans e1;clear aj;go_simp;try with_reducible rfl)
    refine tk 6 ah ?_ (hy:=fun w aj=>by (try dsimp only at aj);have k0:=Y1.out.hat aj 0 rfl;have k1:=Y1.out.hat aj 1 rfl;clear aj;go_simp;try with_reducible rfl)
    refine tk 7 ah ?_
    refine dQ ?_
    have HF:=ak ah
    clear ah
    have HB3:=ak (HB.out.trans (HF.out.mono hsz))
    have r2:=(HF.out.cell (p:=⟨W.heap.size,2,none⟩) Y0.out.lt).trans q2
    have r5:=(HF.out.cell (p:=⟨g,o+k*3+2,none⟩) HG.out).trans e2
    clear HF e0 e1 e2 q2
    obtain ⟨w9,Sk⟩:∃ w,w=wo.drew:=⟨_,rfl⟩
    rw [←Sk] at HB3 r2 r5
    rw [←Sk]
    clear Sk
    go_wp2
    go_ret
    exact ⟨rfl,HB1.out.trans (HB3.out.mono hz1)⟩
  ·have hdl:decide ((k:Int)<(Q.length:Int))=false:=dS (by omega)
   have HV:=ak (show M=6 from by rw [HE.out];exact wX fun j y hy=>HA.out j y (by have:=kM hy;omega) hy)
   obtain rfl:=HV.out
   clear hB
   go_wp2
   go_ret
   exact ⟨rfl,HB1.out.trans (HB.out.mono hz1)⟩
end
section
open Go.RowKit bN bO
def GY (n:Nat):Array Value:=madeCells #[.bool false] (n*1)
theorem LG (n:Nat)(hn:n≤1048576):∀ W:World,(Instr.makeSlice 153 (.int .i64 (n:Int)) (.int .i64 (n:Int))).run Tryz.prog W=.ok (.slice (some ⟨W.heap.size,0,none⟩) n n) (W.alloc (.cells (GY n) 4)):=by
 intro W
 obtain ⟨i,hi,hz,hs,hb⟩:∃ i,Tryz.prog.info? 4=some i∧i.zero=some (.bool false)∧i.size=1∧i.bytes=1:=by
  have h:(Tryz.prog.info? 4).map (fun i=>(i.zero,i.size,i.bytes))=some (some (.bool false),1,1):=by kernel_rfl
  cases hx:Tryz.prog.info? 4 with
  | none=>rw [hx] at h;simp at h
  | some i=>rw [hx] at h;simp at h;exact ⟨i,rfl,h.1,h.2.1,h.2.2⟩
 have hr:=run_make (P:=Tryz.prog) W 153 4 i _ Tryz.underlying153 hi hz .i64 .i64 n n (by omega) (by omega) (by rw [hb];omega) (by omega)
 rw [hs] at hr
 simp only [Int.toNat_natCast] at hr
 exact hr
end
end aQ
end Go.Proofs.YtlhfiapfncikdaaGreatDoor
