import Derived.Test.YtlhfiapfncikdaaGreatDoorPN4
set_option linter.unusedVariables false
set_option linter.unusedSimpArgs false
set_option maxRecDepth 100000
set_option maxHeartbeats 3200000
namespace Go.Proofs.YtlhfiapfncikdaaGreatDoor
namespace aQ
section
open Go.RowKit bN bO bJ bQ
theorem oM (n lo hi:Int){b:Bool}(hb:dD n lo hi=b)(w:World) :
 Calls Tryz.prog 157 #[.int .i64 n,.int .i64 lo,.int .i64 hi] w fun e w'=>e=.returned (.bool b)∧w=w':=by
 subst hb
 exact pW n lo hi w
theorem lT (l s:Int){b:Bool}(hb:dH.rB l s=b)(w:World) :
 Calls Tryz.prog 162 #[.agg #[.int .i64 l,.int .i64 s]] w fun e w'=>e=.returned (.bool b)∧Below w.heap.size w w':=by
 subst hb
 exact (dH.iM l s w).mono fun _ _ ⟨h1,h2⟩=>⟨h1,by rw [←h2];exact (aW _ _).alloc (bK _) _⟩
theorem aD {α:Type}{E:Rp α}(hE:Ok E){L:List α}{a:Option Addr}{c:Nat}{w w':World}(h:aJ E w w.heap.size L a c)(hb:Below w.heap.size w w'):aJ E w' w'.heap.size L a c:=(h.below hE hb).more hE hb.size
theorem NS {p:Prop}{b:Bool}(hb:b=true↔p){w:World}{e:Ending}{w':World}(h:jf p w e w'):e=.returned (.bool b)∧Below w.heap.size w w':=by
 obtain ⟨q,rfl,hq,hbl⟩:=bq h
 exact ⟨by rw [show q=b from Bool.eq_iff_iff.2 (hq.trans hb.symm)],hbl⟩
def Xt (n:Int)(w:World)(e:Ending)(w':World):Prop:=e=.returned (.int .i64 n)∧Below w.heap.size w w'
theorem iB {n:Int}{w:World}{e:Ending}{w':World}(h:Xt n w e w'):e=.returned (.int .i64 n)∧Below w.heap.size w w':=h
theorem aeg:av.size=2:=rfl
def okC (L:List ay)(i:Nat):Prop:=∀ x,L[i]? = some x→dH.rB x.1 x.2=true∧(0<i→∀ y,L[i-1]? = some y→dH.bB y.1 y.2 x.1 x.2=true∧y≠x)
def gL (L:List ay):Prop:=1≤L.length∧L.length≤4∧∀ i,i<L.length→okC L i
theorem DZ {L:List ay}{x:ay}(hx:L[0]? = some x)(hr:dH.rB x.1 x.2=true):okC L 0:=fun y hy=>by
 rw [hx] at hy;obtain rfl:=fC hy;exact ⟨hr,fun h=>absurd h (jH _)⟩
theorem wO {L:List ay}{j:Nat}{x y:ay}(hx:L[j+1]? = some x)(hy:L[j]? = some y)(hr:dH.rB x.1 x.2=true)(hb:dH.bB y.1 y.2 x.1 x.2=true)(hne:y≠x):okC L (j+1):=fun z hz=>by
 rw [hx] at hz;obtain rfl:=fC hz
 refine ⟨hr,fun _ u hu=>?_⟩
 rw [Nat.add_sub_cancel,hy] at hu
 obtain rfl:=fC hu
 exact ⟨hb,hne⟩
theorem oZ (l s m t:Int){b:Bool}(hb:dH.bB l s m t=b)(w:World):Calls Tryz.prog 221 #[.agg #[.int .i64 l,.int .i64 s],.agg #[.int .i64 m,.int .i64 t]] w fun e w'=>e=.returned (.bool b)∧Below w.heap.size w w':=by
 subst hb
 exact (dH.oh l s m t w).mono fun e w' ⟨he,hw⟩=>⟨he,by rw [←hw];exact ((aW _ _).alloc (bK _) _).alloc (by simp) _⟩
theorem WZ {L:List ay}{a:Option Addr}{cap:Nat}{W:World}(h:aJ av W W.heap.size L a cap) :
 Calls Tryz.prog 220 #[.slice a L.length cap] W (jf (gL L) W):=by
 have H:=ak h
 clear h
 by_cases n1:1≤L.length
 rotate_left
 ·have hd:decide ((L.length:Int)<1)=true:=eD (by omega)
  have HN:=ak (show ¬gL L from fun h=>n1 h.1)
  go_enter Tryz.func220,Tryz.ntmps220
  go_wp2
  go_ret
  exact aB HN.out (aW _ _)
 have hd1:decide ((L.length:Int)<1)=false:=dS (by omega)
 by_cases n4:L.length≤4
 rotate_left
 ·have hd:decide (4<(L.length:Int))=true:=eD (by omega)
  have HN:=ak (show ¬gL L from fun h=>n4 h.2.1)
  go_enter Tryz.func220,Tryz.ntmps220
  go_wp2
  go_ret
  exact aB HN.out (aW _ _)
 have hd4:decide (4<(L.length:Int))=false:=dS (by omega)
 go_enter Tryz.func220,Tryz.ntmps220
 go_wp2
 go_loopw [3] (fun i wr=>∃ k:Nat,k≤L.length∧i=.int .i64 k∧Hid (∀ j,j<k→okC L j)∧Below W.heap.size W wr) (fun i _=>L.length-(intOf i).toNat)
 case atStart=>exact ⟨0,dV _,rfl,ak fun j h=>absurd h (gZ _),aW _ _⟩
 case round=>
  obtain ⟨k,hk,rfl,HA,hB⟩:=hrel
  have HB:=ak hB
  have hsz:=hB.size
  by_cases hlt:k<L.length
  ·obtain ⟨⟨x0,x1⟩,hx⟩:=aM hlt
   have HX:=ak hx
   obtain ⟨g,o,us,rfl,hg,hu,hr⟩:=(H.out.below au hB).at_ hx
   obtain rfl:=gF hr
   obtain ⟨e0,e1⟩:=ny (a:=o+k*2) hu rfl
   have hgl:g<wr.heap.size:=bV hg hsz
   have hi0:(0:Int)≤(k:Int):=eu _
   have hi1:(k:Int)<(L.length:Int):=by omega
   clear hB hx hu hr
   cases hr:dH.rB x0 x1 with
   | false=>
    have FY:=ak (show ¬gL L from fun h=>by have:=(h.2.2 k hlt _ HX.out).1;rw [hr] at this;cases this)
    have HR:=ak hr
    clear hr
    go_wp2_with fail
    refine dX (S:=(fun V=>Below (wr).heap.size (wr) V)) (by kernel_rfl) ((aW _ _).drew) (fun ah=>?_)
    refine tk 0 ah ?_
    refine tk 1 ah ?_
    refine tk 2 ah ?_
    refine tk 3 ah ?_ (hy:=fun w aj=>by (try dsimp only at aj);have k0:=(aj.cell (p:=⟨g,o+k*2,none⟩) hgl).trans e0;have k1:=(aj.cell (p:=⟨g,o+k*2+1,none⟩) hgl).trans e1;clear aj;go_simp;try with_reducible rfl)
    refine dw 4 (fun K hK=>?_)
    go_simp
    go_at_call 162
    refine (lT x0 x1 HR.out _).mono ?_
    rintro e w1 ⟨rfl,hb⟩
    refine hK.out _ _ (ah.trans (hb.mono ah.size)) (fun ah=>?_)
    clear hK K hb
    refine tk 5 ah ?_
    refine tk 6 ah ?_
    refine tn 7 ah ?_
    refine tn 8 ah ?_
    refine tn 9 ah ?_
    refine tn 10 ah ?_
    refine tn 11 ah ?_
    refine tn 12 ah ?_
    refine tn 13 ah ?_
    refine tn 14 ah ?_
    refine tn 15 ah ?_
    refine tn 16 ah ?_
    refine tn 17 ah ?_
    refine tn 18 ah ?_
    refine tn 19 ah ?_
    refine tn 20 ah ?_
    refine tn 21 ah ?_
    refine tn 22 ah ?_
    refine tn 23 ah ?_
    refine tn 24 ah ?_
    refine tn 25 ah ?_
    refine tn 26 ah ?_
    refine tn 27 ah ?_
    refine tn 28 ah ?_
    refine tn 29 ah ?_
    refine tn 30 ah ?_
    refine tn 31 ah ?_
    refine tn 32 ah ?_
    refine tn 33 ah ?_
    refine tk 34 ah ?_
    refine dQ ?_
    have HF:=ak ah
    clear ah
    have HB3:=ak (HB.out.trans (HF.out.mono hsz))
    clear HF
    go_wp2
    go_ret
    exact aB FY.out HB3.out
   | true=>
    have HR:=ak hr
    clear hr
    rcases Nat.eq_zero_or_pos k with hk0 | hk0
    ·subst hk0
     have hz:decide ((0:Int)<((0:Nat):Int))=false:=rfl
     have kX:=ak (iT HA.out (DZ HX.out HR.out))
     have e0':wr.cell? ⟨g,o,none⟩=some (.int .i64 x0):=by simpa using e0
     have e1':wr.cell? ⟨g,o+1,none⟩=some (.int .i64 x1):=by simpa using e1
     clear e0 e1
     go_wp2_with fail
     refine dX (S:=(fun V=>Below (wr).heap.size (wr) V)) (by kernel_rfl) ((aW _ _).drew) (fun ah=>?_)
     refine tk 0 ah ?_
     refine tk 1 ah ?_
     refine tk 2 ah ?_
     refine tk 3 ah ?_ (hy:=fun w aj=>by (try dsimp only at aj);have k0:=(aj.cell (p:=⟨g,o,none⟩) hgl).trans e0';have k1:=(aj.cell (p:=⟨g,o+1,none⟩) hgl).trans e1';clear aj;go_simp;try with_reducible rfl)
     refine dw 4 (fun K hK=>?_)
     go_simp
     go_at_call 162
     refine (lT x0 x1 HR.out _).mono ?_
     rintro e w1 ⟨rfl,hb⟩
     refine hK.out _ _ (ah.trans (hb.mono ah.size)) (fun ah=>?_)
     clear hK K hb
     refine tk 5 ah ?_
     refine tk 6 ah ?_
     refine tk 7 ah ?_
     refine tk 8 ah ?_
     refine tk 9 ah ?_
     refine tn 10 ah ?_
     refine tn 11 ah ?_
     refine tn 12 ah ?_
     refine tn 13 ah ?_
     refine tn 14 ah ?_
     refine tn 15 ah ?_
     refine tn 16 ah ?_
     refine tn 17 ah ?_
     refine tn 18 ah ?_
     refine tn 19 ah ?_
     refine tn 20 ah ?_
     refine tn 21 ah ?_
     refine tn 22 ah ?_
     refine tn 23 ah ?_
     refine tn 24 ah ?_
     refine tn 25 ah ?_
     refine tn 26 ah ?_
     refine tn 27 ah ?_
     refine tn 28 ah ?_
     refine tn 29 ah ?_
     refine tn 30 ah ?_
     refine tn 31 ah ?_
     refine tn 32 ah ?_
     refine tk 33 ah ?_
     refine tk 34 ah ?_
     refine dQ ?_
     have HF:=ak ah
     clear ah
     have HB3:=ak (HB.out.trans (HF.out.mono hsz))
     clear HF
     go_wp2
     go_roundw
     case rel=>exact ⟨1,by omega,by go_num,kX,HB3.out⟩
     case measure=>simp [intOf];omega
    ·obtain ⟨j,rfl⟩:∃ j,k=j+1:=⟨k-1,by omega⟩
     obtain ⟨⟨y0,y1⟩,hy⟩:=aM (L:=L) (k:=j) (by omega)
     have HY:=ak hy
     obtain ⟨g2,o2,us,he,hg2,hu,hr⟩:=(H.out.below au HB.out).at_ hy
     cases he
     obtain rfl:=gF hr
     obtain ⟨d0,d1⟩:=ny (a:=o+j*2) hu rfl
     have hj0:(0:Int)≤(j:Int):=eu _
     have hj1:(j:Int)<(L.length:Int):=by omega
     have YR:(0:Int)≤(j:Int)+1:=by omega
     have YQ:(j:Int)+1<(L.length:Int):=by omega
     have XF:IntKind.i64.wrap ((j:Int)+1-1)=(j:Int):=by rw [show (j:Int)+1-1=(j:Int) by omega];exact gK _ (by omega)
     have YP:IntKind.i64.wrap (j:Int)=(j:Int):=gK _ (by omega)
     have hjp:decide ((0:Int)<(j:Int)+1)=true:=eD (by omega)
     clear hy hu hr hg2
     cases hbb:dH.bB y0 y1 x0 x1 with
     | false=>
      have FY:=ak (show ¬gL L from fun h=>by have:=((h.2.2 (j+1) hlt _ HX.out).2 (Nat.succ_pos _) (y0,y1) HY.out).1;rw [hbb] at this;cases this)
      have yF:=ak hbb
      clear hbb
      go_wp2_with fail
      refine dX (S:=(fun V=>Below (wr).heap.size (wr) V)) (by kernel_rfl) ((aW _ _).drew) (fun ah=>?_)
      refine tk 0 ah ?_
      refine tk 1 ah ?_
      refine tk 2 ah ?_
      refine tk 3 ah ?_ (hy:=fun w aj=>by (try dsimp only at aj);have k0:=(aj.cell (p:=⟨g,o+(j+1)*2,none⟩) hgl).trans e0;have k1:=(aj.cell (p:=⟨g,o+(j+1)*2+1,none⟩) hgl).trans e1;clear aj;go_simp;try with_reducible rfl)
      refine dw 4 (fun K hK=>?_)
      go_simp
      go_at_call 162
      refine (lT x0 x1 HR.out _).mono ?_
      rintro e w1 ⟨rfl,hb⟩
      refine hK.out _ _ (ah.trans (hb.mono ah.size)) (fun ah=>?_)
      clear hK K hb
      refine tk 5 ah ?_
      refine tk 6 ah ?_
      refine tk 7 ah ?_
      refine tk 8 ah ?_
      refine tk 9 ah ?_
      refine tk 10 ah ?_
      refine tk 11 ah ?_
      refine tk 12 ah ?_
      refine tk 13 ah ?_
      refine tk 14 ah ?_ (hy:=fun w aj=>by (try dsimp only at aj);have k0:=(aj.cell (p:=⟨g,o+j*2,none⟩) hgl).trans d0;have k1:=(aj.cell (p:=⟨g,o+j*2+1,none⟩) hgl).trans d1;clear aj;go_simp;try with_reducible rfl)
      refine tk 15 ah ?_
      refine tk 16 ah ?_
      refine tk 17 ah ?_
      refine tk 18 ah ?_ (hy:=fun w aj=>by (try dsimp only at aj);have k0:=(aj.cell (p:=⟨g,o+(j+1)*2,none⟩) hgl).trans e0;have k1:=(aj.cell (p:=⟨g,o+(j+1)*2+1,none⟩) hgl).trans e1;clear aj;go_simp;try with_reducible rfl)
      refine dw 19 (fun K hK=>?_)
      go_simp
      go_at_call 221
      refine (oZ y0 y1 x0 x1 yF.out _).mono ?_
      rintro e w2 ⟨rfl,hb⟩
      refine hK.out _ _ (ah.trans (hb.mono ah.size)) (fun ah=>?_)
      clear hK K hb
      refine tk 20 ah ?_
      refine tk 21 ah ?_
      refine tn 22 ah ?_
      refine tn 23 ah ?_
      refine tn 24 ah ?_
      refine tn 25 ah ?_
      refine tn 26 ah ?_
      refine tn 27 ah ?_
      refine tn 28 ah ?_
      refine tn 29 ah ?_
      refine tn 30 ah ?_
      refine tn 31 ah ?_
      refine tk 32 ah ?_
      refine tk 33 ah ?_
      refine tk 34 ah ?_
      refine dQ ?_
      have HF:=ak ah
      clear ah
      have HB3:=ak (HB.out.trans (HF.out.mono hsz))
      clear HF
      go_wp2
      go_ret
      exact aB FY.out HB3.out
     | true=>
      have yF:=ak hbb
      clear hbb
      cases c1:(y0==x0) with
      | false=>
       have kX:=ak (iT HA.out (wO HX.out HY.out HR.out yF.out (fun e=>by have:=congrArg Prod.fst e;simp at c1;exact c1 this)))
       go_wp2_with fail
       refine dX (S:=(fun V=>Below (wr).heap.size (wr) V)) (by kernel_rfl) ((aW _ _).drew) (fun ah=>?_)
       refine tk 0 ah ?_
       refine tk 1 ah ?_
       refine tk 2 ah ?_
       refine tk 3 ah ?_ (hy:=fun w aj=>by (try dsimp only at aj);have k0:=(aj.cell (p:=⟨g,o+(j+1)*2,none⟩) hgl).trans e0;have k1:=(aj.cell (p:=⟨g,o+(j+1)*2+1,none⟩) hgl).trans e1;clear aj;go_simp;try with_reducible rfl)
       refine dw 4 (fun K hK=>?_)
       go_simp
       go_at_call 162
       refine (lT x0 x1 HR.out _).mono ?_
       rintro e w1 ⟨rfl,hb⟩
       refine hK.out _ _ (ah.trans (hb.mono ah.size)) (fun ah=>?_)
       clear hK K hb
       refine tk 5 ah ?_
       refine tk 6 ah ?_
       refine tk 7 ah ?_
       refine tk 8 ah ?_
       refine tk 9 ah ?_
       refine tk 10 ah ?_
       refine tk 11 ah ?_
       refine tk 12 ah ?_
       refine tk 13 ah ?_
       refine tk 14 ah ?_ (hy:=fun w aj=>by (try dsimp only at aj);have k0:=(aj.cell (p:=⟨g,o+j*2,none⟩) hgl).trans d0;have k1:=(aj.cell (p:=⟨g,o+j*2+1,none⟩) hgl).trans d1;clear aj;go_simp;try with_reducible rfl)
       refine tk 15 ah ?_
       refine tk 16 ah ?_
       refine tk 17 ah ?_
       refine tk 18 ah ?_ (hy:=fun w aj=>by (try dsimp only at aj);have k0:=(aj.cell (p:=⟨g,o+(j+1)*2,none⟩) hgl).trans e0;have k1:=(aj.cell (p:=⟨g,o+(j+1)*2+1,none⟩) hgl).trans e1;clear aj;go_simp;try with_reducible rfl)
       refine dw 19 (fun K hK=>?_)
       go_simp
       go_at_call 221
       refine (oZ y0 y1 x0 x1 yF.out _).mono ?_
       rintro e w2 ⟨rfl,hb⟩
       refine hK.out _ _ (ah.trans (hb.mono ah.size)) (fun ah=>?_)
       clear hK K hb
       refine tk 20 ah ?_
       refine tk 21 ah ?_
       refine tk 22 ah ?_
       refine tk 23 ah ?_
       refine tk 24 ah ?_
       refine tk 25 ah ?_
       refine tk 26 ah ?_ (hy:=fun w aj=>by (try dsimp only at aj);have k0:=(aj.cell (p:=⟨g,o+j*2,none⟩) hgl).trans d0;have k1:=(aj.cell (p:=⟨g,o+j*2+1,none⟩) hgl).trans d1;clear aj;go_simp;try with_reducible rfl)
       refine tk 27 ah ?_
       refine tk 28 ah ?_
       refine tk 29 ah ?_
       refine tk 30 ah ?_ (hy:=fun w aj=>by (try dsimp only at aj);have k0:=(aj.cell (p:=⟨g,o+(j+1)*2,none⟩) hgl).trans e0;have k1:=(aj.cell (p:=⟨g,o+(j+1)*2+1,none⟩) hgl).trans e1;clear aj;go_simp;try with_reducible rfl)
       refine tk 31 ah ?_
       refine tk 32 ah ?_
       refine tk 33 ah ?_
       refine tk 34 ah ?_
       refine dQ ?_
       have HF:=ak ah
       clear ah
       have HB3:=ak (HB.out.trans (HF.out.mono hsz))
       clear HF
       go_wp2
       go_roundw
       case rel=>exact ⟨j+2,by omega,by go_num,kX,HB3.out⟩
       case measure=>simp [intOf];omega
      | true=>
       cases c2:(y1==x1) with
       | false=>
        have kX:=ak (iT HA.out (wO HX.out HY.out HR.out yF.out (fun e=>by have:=congrArg Prod.snd e;simp at c2;exact c2 this)))
        go_wp2_with fail
        refine dX (S:=(fun V=>Below (wr).heap.size (wr) V)) (by kernel_rfl) ((aW _ _).drew) (fun ah=>?_)
        refine tk 0 ah ?_
        refine tk 1 ah ?_
        refine tk 2 ah ?_
        refine tk 3 ah ?_ (hy:=fun w aj=>by (try dsimp only at aj);have k0:=(aj.cell (p:=⟨g,o+(j+1)*2,none⟩) hgl).trans e0;have k1:=(aj.cell (p:=⟨g,o+(j+1)*2+1,none⟩) hgl).trans e1;clear aj;go_simp;try with_reducible rfl)
        refine dw 4 (fun K hK=>?_)
        go_simp
        go_at_call 162
        refine (lT x0 x1 HR.out _).mono ?_
        rintro e w1 ⟨rfl,hb⟩
        refine hK.out _ _ (ah.trans (hb.mono ah.size)) (fun ah=>?_)
        clear hK K hb
        refine tk 5 ah ?_
        refine tk 6 ah ?_
        refine tk 7 ah ?_
        refine tk 8 ah ?_
        refine tk 9 ah ?_
        refine tk 10 ah ?_
        refine tk 11 ah ?_
        refine tk 12 ah ?_
        refine tk 13 ah ?_
        refine tk 14 ah ?_ (hy:=fun w aj=>by (try dsimp only at aj);have k0:=(aj.cell (p:=⟨g,o+j*2,none⟩) hgl).trans d0;have k1:=(aj.cell (p:=⟨g,o+j*2+1,none⟩) hgl).trans d1;clear aj;go_simp;try with_reducible rfl)
        refine tk 15 ah ?_
        refine tk 16 ah ?_
        refine tk 17 ah ?_
        refine tk 18 ah ?_ (hy:=fun w aj=>by (try dsimp only at aj);have k0:=(aj.cell (p:=⟨g,o+(j+1)*2,none⟩) hgl).trans e0;have k1:=(aj.cell (p:=⟨g,o+(j+1)*2+1,none⟩) hgl).trans e1;clear aj;go_simp;try with_reducible rfl)
        refine dw 19 (fun K hK=>?_)
        go_simp
        go_at_call 221
        refine (oZ y0 y1 x0 x1 yF.out _).mono ?_
        rintro e w2 ⟨rfl,hb⟩
        refine hK.out _ _ (ah.trans (hb.mono ah.size)) (fun ah=>?_)
        clear hK K hb
        refine tk 20 ah ?_
        refine tk 21 ah ?_
        refine tk 22 ah ?_
        refine tk 23 ah ?_
        refine tk 24 ah ?_
        refine tk 25 ah ?_
        refine tk 26 ah ?_ (hy:=fun w aj=>by (try dsimp only at aj);have k0:=(aj.cell (p:=⟨g,o+j*2,none⟩) hgl).trans d0;have k1:=(aj.cell (p:=⟨g,o+j*2+1,none⟩) hgl).trans d1;clear aj;go_simp;try with_reducible rfl)
        refine tk 27 ah ?_
        refine tk 28 ah ?_
        refine tk 29 ah ?_
        refine tk 30 ah ?_ (hy:=fun w aj=>by (try dsimp only at aj);have k0:=(aj.cell (p:=⟨g,o+(j+1)*2,none⟩) hgl).trans e0;have k1:=(aj.cell (p:=⟨g,o+(j+1)*2+1,none⟩) hgl).trans e1;clear aj;go_simp;try with_reducible rfl)
        refine tk 31 ah ?_
        refine tk 32 ah ?_
        refine tk 33 ah ?_
        refine tk 34 ah ?_
        refine dQ ?_
        have HF:=ak ah
        clear ah
        have HB3:=ak (HB.out.trans (HF.out.mono hsz))
        clear HF
        go_wp2
        go_roundw
        case rel=>exact ⟨j+2,by omega,by go_num,kX,HB3.out⟩
        case measure=>simp [intOf];omega
       | true=>
        have FY:=ak (show ¬gL L from fun h=>((h.2.2 (j+1) hlt _ HX.out).2 (Nat.succ_pos _) (y0,y1) HY.out).2 (by rw [beq_iff_eq] at c1 c2;rw [c1,c2]))
        go_wp2_with fail
        refine dX (S:=(fun V=>Below (wr).heap.size (wr) V)) (by kernel_rfl) ((aW _ _).drew) (fun ah=>?_)
        refine tk 0 ah ?_
        refine tk 1 ah ?_
        refine tk 2 ah ?_
        refine tk 3 ah ?_ (hy:=fun w aj=>by (try dsimp only at aj);have k0:=(aj.cell (p:=⟨g,o+(j+1)*2,none⟩) hgl).trans e0;have k1:=(aj.cell (p:=⟨g,o+(j+1)*2+1,none⟩) hgl).trans e1;clear aj;go_simp;try with_reducible rfl)
        refine dw 4 (fun K hK=>?_)
        go_simp
        go_at_call 162
        refine (lT x0 x1 HR.out _).mono ?_
        rintro e w1 ⟨rfl,hb⟩
        refine hK.out _ _ (ah.trans (hb.mono ah.size)) (fun ah=>?_)
        clear hK K hb
        refine tk 5 ah ?_
        refine tk 6 ah ?_
        refine tk 7 ah ?_
        refine tk 8 ah ?_
        refine tk 9 ah ?_
        refine tk 10 ah ?_
        refine tk 11 ah ?_
        refine tk 12 ah ?_
        refine tk 13 ah ?_
        refine tk 14 ah ?_ (hy:=fun w aj=>by (try dsimp only at aj);have k0:=(aj.cell (p:=⟨g,o+j*2,none⟩) hgl).trans d0;have k1:=(aj.cell (p:=⟨g,o+j*2+1,none⟩) hgl).trans d1;clear aj;go_simp;try with_reducible rfl)
        refine tk 15 ah ?_
        refine tk 16 ah ?_
        refine tk 17 ah ?_
        refine tk 18 ah ?_ (hy:=fun w aj=>by (try dsimp only at aj);have k0:=(aj.cell (p:=⟨g,o+(j+1)*2,none⟩) hgl).trans e0;have k1:=(aj.cell (p:=⟨g,o+(j+1)*2+1,none⟩) hgl).trans e1;clear aj;go_simp;try with_reducible rfl)
        refine dw 19 (fun K hK=>?_)
        go_simp
        go_at_call 221
        refine (oZ y0 y1 x0 x1 yF.out _).mono ?_
        rintro e w2 ⟨rfl,hb⟩
        refine hK.out _ _ (ah.trans (hb.mono ah.size)) (fun ah=>?_)
        clear hK K hb
        refine tk 20 ah ?_
        refine tk 21 ah ?_
        refine tk 22 ah ?_
        refine tk 23 ah ?_
        refine tk 24 ah ?_
        refine tk 25 ah ?_
        refine tk 26 ah ?_ (hy:=fun w aj=>by (try dsimp only at aj);have k0:=(aj.cell (p:=⟨g,o+j*2,none⟩) hgl).trans d0;have k1:=(aj.cell (p:=⟨g,o+j*2+1,none⟩) hgl).trans d1;clear aj;go_simp;try with_reducible rfl)
        refine tk 27 ah ?_
        refine tk 28 ah ?_
        refine tk 29 ah ?_
        refine tk 30 ah ?_ (hy:=fun w aj=>by (try dsimp only at aj);have k0:=(aj.cell (p:=⟨g,o+(j+1)*2,none⟩) hgl).trans e0;have k1:=(aj.cell (p:=⟨g,o+(j+1)*2+1,none⟩) hgl).trans e1;clear aj;go_simp;try with_reducible rfl)
        refine tk 31 ah ?_
        refine tk 32 ah ?_
        refine tk 33 ah ?_
        refine tk 34 ah ?_
        refine dQ ?_
        have HF:=ak ah
        clear ah
        have HB3:=ak (HB.out.trans (HF.out.mono hsz))
        clear HF
        go_wp2
        go_ret
        exact aB FY.out HB3.out
  ·have HY:=ak (show gL L from ⟨n1,n4,fun i hi=>HA.out i (by omega)⟩)
   clear hB
   go_wp2
   go_ret
   exact bM HY.out HB.out
theorem dW {L:List ay}{a:Option Addr}{cap:Nat}{l s:Int}{W:World}(h:aJ av W W.heap.size L a cap) :
 Calls Tryz.prog 103 #[.slice a L.length cap,.agg #[.int .i64 l,.int .i64 s]] W (jf ((l,s)∈L) W):=by
 have hn:L.length≤9223372036854775807:=by have h1:=h.1;have h2:=h.2.1;unfold maxLen at h2;omega
 have H:=ak h
 clear h
 have HB0:=ak (show Below W.heap.size W (W.alloc (.cells #[.int .i64 l,.int .i64 s] 49)) from (aW _ _).alloc (bK _) _)
 have gY:=ak (aO.new W 49 #[.int .i64 l,.int .i64 s])
 go_enter Tryz.func103,Tryz.ntmps103
 go_wp2
 go_loopw [5] (fun i wr=>∃ k:Nat,k≤L.length∧i=.int .i64 k∧Hid ((l,s) ∉ L.take k)∧Below W.heap.size W wr∧Hid (aO wr W.heap.size 49 #[.int .i64 l,.int .i64 s])) (fun i _=>L.length-(intOf i).toNat)
 case atStart=>exact ⟨0,dV _,rfl,ak (by simp),HB0.out,gY⟩
 case round=>
  obtain ⟨k,hk,rfl,HA,hB,HP⟩:=hrel
  have HB:=ak hB
  have hsz:=hB.size
  by_cases hlt:k<L.length
  ·obtain ⟨⟨x0,x1⟩,hx⟩:=aM hlt
   have HX:=ak hx
   obtain ⟨g,o,us,rfl,hg,hu,hr⟩:=(H.out.below au hB).at_ hx
   obtain rfl:=gF hr
   obtain ⟨e0,e1⟩:=ny (a:=o+k*2) hu rfl
   have hgl:g<wr.heap.size:=bV hg hsz
   have hi0:(0:Int)≤(k:Int):=eu _
   have hi1:(k:Int)<(L.length:Int):=by omega
   obtain ⟨hq0,hq1⟩:=HP.out.kS rfl
   have hpl:=HP.out.lt
   clear hB hx hu hr
   cases c1:(x0==l) with
   | false=>
    have HC:=ak (show (l,s) ∉ L.take (k+1) from by rw [List.take_add_one,HX.out];simp at c1 ⊢;exact ⟨HA.out,fun e=>absurd e.symm c1⟩)
    go_wp2_with fail
    refine dX (S:=(fun V=>Below (wr).heap.size (wr) V)) (by kernel_rfl) ((aW _ _).drew) (fun ah=>?_)
    refine tk 0 ah ?_
    refine tk 1 ah ?_
    refine tk 2 ah ?_
    refine tk 3 ah ?_ (hy:=fun w aj=>by (try dsimp only at aj);have k0:=(aj.cell (p:=⟨g,o+k*2,none⟩) hgl).trans e0;have k1:=(aj.cell (p:=⟨g,o+k*2+1,none⟩) hgl).trans e1;clear aj;go_simp;try with_reducible rfl)
    refine tk 4 ah ?_ (hy:=fun w aj=>by (try dsimp only at aj);have k0:=(aj.cell (p:=⟨W.heap.size,0,none⟩) hpl).trans hq0;have k1:=(aj.cell (p:=⟨W.heap.size,1,none⟩) hpl).trans hq1;clear aj;go_simp;try with_reducible rfl)
    refine tk 5 ah ?_
    refine dQ ?_
    have HF:=ak ah
    clear ah
    have HB3:=ak (HB.out.trans (HF.out.mono hsz))
    have iG:=ak (HP.out.call HF.out)
    clear HF
    go_wp2
    go_roundw
    case rel=>exact ⟨k+1,by omega,by go_num,HC,HB3.out,iG⟩
    case measure=>simp [intOf];omega
   | true=>
    cases c2:(x1==s) with
    | false=>
     have HC:=ak (show (l,s) ∉ L.take (k+1) from by rw [List.take_add_one,HX.out];simp at c2 ⊢;exact ⟨HA.out,fun _ e=>absurd e.symm c2⟩)
     go_wp2_with fail
     refine dX (S:=(fun V=>Below (wr).heap.size (wr) V)) (by kernel_rfl) ((aW _ _).drew) (fun ah=>?_)
     refine tk 0 ah ?_
     refine tk 1 ah ?_
     refine tk 2 ah ?_
     refine tk 3 ah ?_ (hy:=fun w aj=>by (try dsimp only at aj);have k0:=(aj.cell (p:=⟨g,o+k*2,none⟩) hgl).trans e0;have k1:=(aj.cell (p:=⟨g,o+k*2+1,none⟩) hgl).trans e1;clear aj;go_simp;try with_reducible rfl)
     refine tk 4 ah ?_ (hy:=fun w aj=>by (try dsimp only at aj);have k0:=(aj.cell (p:=⟨W.heap.size,0,none⟩) hpl).trans hq0;have k1:=(aj.cell (p:=⟨W.heap.size,1,none⟩) hpl).trans hq1;clear aj;go_simp;try with_reducible rfl)
     refine tk 5 ah ?_
     refine dQ ?_
     have HF:=ak ah
     clear ah
     have HB3:=ak (HB.out.trans (HF.out.mono hsz))
     have iG:=ak (HP.out.call HF.out)
     clear HF
     go_wp2
     go_roundw
     case rel=>exact ⟨k+1,by omega,by go_num,HC,HB3.out,iG⟩
     case measure=>simp [intOf];omega
    | true=>
     have HY:=ak (show (l,s)∈L from by rw [beq_iff_eq] at c1 c2;subst c1 c2;exact List.mem_of_getElem? HX.out)
     go_wp2_with fail
     refine dX (S:=(fun V=>Below (wr).heap.size (wr) V)) (by kernel_rfl) ((aW _ _).drew) (fun ah=>?_)
     refine tk 0 ah ?_
     refine tk 1 ah ?_
     refine tk 2 ah ?_
     refine tk 3 ah ?_ (hy:=fun w aj=>by (try dsimp only at aj);have k0:=(aj.cell (p:=⟨g,o+k*2,none⟩) hgl).trans e0;have k1:=(aj.cell (p:=⟨g,o+k*2+1,none⟩) hgl).trans e1;clear aj;go_simp;try with_reducible rfl)
     refine tk 4 ah ?_ (hy:=fun w aj=>by (try dsimp only at aj);have k0:=(aj.cell (p:=⟨W.heap.size,0,none⟩) hpl).trans hq0;have k1:=(aj.cell (p:=⟨W.heap.size,1,none⟩) hpl).trans hq1;clear aj;go_simp;try with_reducible rfl)
     refine tk 5 ah ?_
     refine dQ ?_
     have HF:=ak ah
     clear ah
     have HB3:=ak (HB.out.trans (HF.out.mono hsz))
     clear HF
     go_wp2
     go_ret
     exact bM HY.out HB3.out
  ·have HN:=ak (show (l,s) ∉ L from by have:=HA.out;rw [List.take_of_length_le (by omega)] at this;exact this)
   clear hB
   go_wp2
   go_ret
   exact aB HN.out HB.out
theorem jP:(Sl av).size=1:=rfl
def iW (C:List (List ay)):Prop:=1≤C.length∧C.length≤6∧∀ (i:Nat)(x:List ay),C[i]? = some x→gL x
theorem Mj {C:List (List ay)}{a:Option Addr}{cap:Nat}{W:World}(h:aJ (Sl av) W W.heap.size C a cap) :
 Calls Tryz.prog 158 #[.slice a C.length cap] W (jf (iW C) W):=by
 have hn:C.length≤9223372036854775807:=by have h1:=h.1;have h2:=h.2.1;unfold maxLen at h2;omega
 have H:=ak h
 clear h
 go_enter Tryz.func158,Tryz.ntmps158
 go_wp2
 go_loopw [3] (fun i wr=>∃ k:Nat,k≤C.length∧k≤7∧i=.int .i64 k∧Hid (∀ (j:Nat) (x:List ay),j<k→C[j]? = some x→gL x)∧Below W.heap.size W wr) (fun i _=>C.length-(intOf i).toNat)
 case atStart=>exact ⟨0,dV _,by omega,rfl,ak fun j x h=>absurd h (gZ _),aW _ _⟩
 case round=>
  obtain ⟨k,hk,hk7,rfl,HA,hB⟩:=hrel
  have HB:=ak hB
  have hsz:=hB.size
  by_cases hlt:k<C.length
  ·have hd1:decide ((k:Int)<(C.length:Int))=true:=eD (by omega)
   by_cases h6:k≤6
   ·have hd2:decide ((k:Int)≤6)=true:=eD (by omega)
    obtain ⟨x,hx⟩:=aM hlt
    have HX:=ak hx
    obtain ⟨g,o,us,rfl,hg,hu,hr⟩:=(H.out.below (aZ au) hB).at_ hx
    obtain ⟨a1,c1,rfl,hx1⟩:=hr
    have e0:wr.cell? ⟨g,o+k,none⟩=some (.slice a1 x.length c1):=by simpa [jP] using hu 0 _ rfl
    have hi0:(0:Int)≤(k:Int):=eu _
    have hi1:(k:Int)<(C.length:Int):=by omega
    have HR:=ak (hx1.more au hsz)
    clear hB hx hu hx1
    go_wp2_with fail
    refine (WZ HR.out).mono ?_
    intro e w2 h
    obtain ⟨q,rfl,hq,hb⟩:=bq h
    have HB2:=ak (HB.out.trans (hb.mono hsz))
    clear h hb
    cases q with
    | false=>
     have HN:=ak (show ¬iW C from fun h=>by have:=hq.2 (h.2.2 k _ HX.out);cases this)
     clear hq
     go_wp2
     go_ret
     exact aB HN.out HB2.out
    | true=>
     have HS:=ak (show ∀ (j:Nat) (x:List ay),j<k+1→C[j]? = some x→gL x from fun j y hj hy=>by
      by_cases e:j=k
      ·subst e
       have:=HX.out
       rw [hy] at this
       obtain rfl:=fC this
       exact hq.1 rfl
      ·exact HA.out j y (by omega) hy)
     clear hq
     go_wp2
     go_roundw
     case rel=>exact ⟨k+1,by omega,by omega,by go_num,HS,HB2.out⟩
     case measure=>simp [intOf];omega
   ·have hd2:decide ((k:Int)≤6)=false:=dS (by omega)
    have hd3:decide ((1:Int)≤(C.length:Int))=true:=eD (by omega)
    have hd4:decide ((C.length:Int)≤6)=false:=dS (by omega)
    have HN:=ak (show ¬iW C from fun h=>by have:=h.2.1;omega)
    clear hB
    go_wp2
    go_ret
    exact aB HN.out HB.out
  ·have hd1:decide ((k:Int)<(C.length:Int))=false:=dS (by omega)
   by_cases n1:1≤C.length
   ·have hd3:decide ((1:Int)≤(C.length:Int))=true:=eD (by omega)
    by_cases n6:C.length≤6
    ·have hd4:decide ((C.length:Int)≤6)=true:=eD (by omega)
     have HY:=ak (show iW C from ⟨n1,n6,fun i x hx=>HA.out i x (by have:=kM hx;omega) hx⟩)
     clear hB
     go_wp2
     go_ret
     exact bM HY.out HB.out
    ·have hd4:decide ((C.length:Int)≤6)=false:=dS (by omega)
     have HN:=ak (show ¬iW C from fun h=>n6 h.2.1)
     clear hB
     go_wp2
     go_ret
     exact aB HN.out HB.out
   ·have hd3:decide ((1:Int)≤(C.length:Int))=false:=dS (by omega)
    have HN:=ak (show ¬iW C from fun h=>n1 h.1)
    clear hB
    go_wp2
    go_ret
    exact aB HN.out HB.out
end
section
open Go.RowKit bN bO
theorem Eo {B:Nat}{w w':World}{v:Value}(h:w.grownBy w' v.ownBlock)(hv:∀ k,v.ownBlock=some k→B≤k)(hB:B≤w.heap.size):Below B w w':=
 ⟨h.os,h.tape,h.output,h.size,fun k hk=>h.block k (bV hk hB) (fun e=>by have:=hv k e.symm;omega)⟩
section
variable {α:Type}{E:Rp α}{f:α→List Value}{w w':World}{lo:Nat}{T:TypeId}{v:Value}{L:List α}
theorem JF {P:Program}{w:World}{base:Nat}{t ty e:TypeId}{i:TypeInfo}{size:Nat}(ht:P.underlying t=some (.slice e))(hi:P.info? e=some i){v:Value}{n:Nat}{xs:List Value}(hown:w.ownsRow base e size v n xs)(c:Nat) :
 (Builtin.append_ #[t,t] ty #[v,.slice none 0 c]).run P w=.ok v w:=by
 rcases hown.2 with ⟨rfl,rfl⟩ | ⟨g,cap,cur,rfl,_,_,hnc,_⟩
 ·simp [Builtin.append_,run_underlying ht,sizeOf,typeInfo,hi,Builtin.lenOf,Builtin.firstCells]
 ·simp [Builtin.append_,run_underlying ht,sizeOf,typeInfo,hi,Builtin.lenOf,Builtin.firstCells,hnc,storeCells]
structure jg {α:Type}(E:Rp α)(f:α→List Value)(w:World)(lo:Nat)(T:TypeId)(v:Value)(L:List α):Prop where
 own:w.ownsRow lo T E.size v L.length (L.flatMap f)
 blk:∀ k,v.ownBlock=some k→lo≤k∧k<w.heap.size
theorem jg.none_ (E:Rp α)(f:α→List Value)(w:World)(lo:Nat)(T:TypeId):jg E f w lo T (.slice none 0 0) []:=⟨⟨by simp,.inl ⟨rfl,rfl⟩⟩,fun k hk=>by cases hk⟩
theorem jg.made (E:Rp α)(f:α→List Value)(w:World)(T:TypeId):jg E f (w.alloc (.cells #[] T)) w.heap.size T (.slice (some ⟨w.heap.size,0,none⟩) 0 0) []:=
 ⟨(App.made E w T).own,fun k hk=>(by cases hk;exact ⟨bK _,by simp⟩)⟩
theorem jg.isSlice (h:jg E f w lo T v L):∃ a cap,v=.slice a L.length cap:=by
 obtain ⟨_,h2⟩:=h.own
 rcases h2 with ⟨rfl,h0⟩ | ⟨g,cap,cur,rfl,_⟩
 ·exact ⟨none,0,by rw [h0]⟩
 ·exact ⟨_,_,rfl⟩
theorem jg.mv (h:jg E f w lo T v L)(hs:w.heap.size≤w'.heap.size)(hb:∀ k,v.ownBlock=some k→w'.heap[k]? = w.heap[k]?):jg E f w' lo T v L:=by
 refine ⟨?_,fun k hk=>⟨(h.blk k hk).1,bV (h.blk k hk).2 hs⟩⟩
 obtain ⟨h1,h2⟩:=h.own
 refine ⟨h1,?_⟩
 rcases h2 with h2 | ⟨g,cap,cur,rfl,hlo,hg,h3⟩
 ·exact .inl h2
 ·exact .inr ⟨g,cap,cur,rfl,hlo,(hb g rfl).trans hg,h3⟩
theorem jg.call (h:jg E f w lo T v L)(hb:Below w.heap.size w w'):jg E f w' lo T v L:=h.mv hb.size fun k hk=>hb.block k (h.blk k hk).2
theorem rD (hE:Ok E)(hF:Flat E f)(w:World):∀ M:List α,(M.flatMap f).length=M.length*E.size
 | []=>by simp
 | y::ys=>by
  have hy:(f y).length=E.size:=hE.jG (hF.ow w (fun _=>False) y)
  simp only [List.flatMap_cons,List.length_append,List.length_cons,rD hE hF w ys,hy,Nat.add_mul,Nat.one_mul]
  omega
theorem vC (hE:Ok E)(hF:Flat E f)(w:World):∀ (M:List α)(q:Nat)(x:α),M[q]? = some x→∀ j d,(f x)[j]? = some d→(M.flatMap f)[q*E.size+j]? = some d
 | [],q,x,hq,j,d,hj=>by simp at hq
 | y::ys,q,x,hq,j,d,hj=>by
  have hy:(f y).length=E.size:=hE.jG (hF.ow w (fun _=>False) y)
  simp only [List.flatMap_cons]
  cases q with
  | zero=>
   simp at hq
   subst hq
   rw [Nat.zero_mul,Nat.zero_add,List.getElem?_append_left (List.getElem?_eq_some_iff.1 hj).1]
   exact hj
  | succ q=>
   rw [List.getElem?_append_right (by rw [hy,Nat.add_mul,Nat.one_mul];omega),hy,Nat.add_mul,Nat.one_mul,show q*E.size+E.size+j-E.size=q*E.size+j by omega]
   exact vC hE hF w ys q x (by simpa using hq) j d hj
theorem oJ (hE:Ok E)(hF:Flat E f)(w:World)(g:Nat):∀ (M:List α)(b:Nat),(∀ i x,M[i]? = some x→aR w g (b+i*E.size) (f x))→aR w g b (M.flatMap f)
 | [],b,_=>aR.nil
 | y::ys,b,hc=>by
  have hy:(f y).length=E.size:=hE.jG (hF.ow w (fun _=>False) y)
  simp only [List.flatMap_cons]
  refine aR.app.2 ⟨by simpa using hc 0 y rfl,?_⟩
  rw [hy]
  refine oJ hE hF w g ys _ fun i x hx=>?_
  have:=hc (i+1) x (by simpa using hx)
  rw [Nat.add_mul,Nat.one_mul] at this
  rw [show b+E.size+i*E.size=b+(i*E.size+E.size) by omega]
  exact this
theorem jg.more (hE:Ok E)(hF:Flat E f){P:Program}(h:jg E f w lo T v L){t ty:TypeId}{i:TypeInfo}{z:Value}{bytes:Nat}(ht:P.underlying t=some (.slice T))(hi:P.info? T=some i)(hz:i.zero=some z)(hsize:i.size=E.size)(hby:i.bytes=bytes)(hzs:z.cells.size=E.size)(hpos:0<E.size)
 {M:List α} {a:Option Addr} {cap:Nat} (hM:aJ E w w.heap.size M a cap) (hlo:lo≤w.heap.size) (hL:L.length+M.length≤maxLen) (XI:(L.length+M.length)*bytes≤140737488355328) :
 ∃ a' c' w',(Builtin.append_ #[t,t] ty #[v,.slice a M.length cap]).run P w=.ok (.slice a' (L++M).length c') w'∧jg E f w' lo T (.slice a' (L++M).length c') (L++M)∧Below lo w w':=by
 cases a with
 | none=>
  have h0:M = []:=by
   cases M with
   | nil=>rfl
   | cons y ys=>obtain ⟨g,o,ha,_⟩:=hM.2.2 (by simp);cases ha
  subst h0
  obtain ⟨a',c',rfl⟩:=h.isSlice
  simp only [List.append_nil]
  exact ⟨a',c',w,JF ht hi h.own cap,h,aW _ _⟩
 | some x=>
  obtain ⟨news,hlen,hcells,hone,hnews⟩:∃ news:List Value,news.length=M.length*E.size∧(∀ j u,news[j]? = some u→w.cell? (x.add j)=some u)∧(∀ u∈news,u.oneCell'=true)∧news=M.flatMap f:=by
   refine ⟨M.flatMap f,rD hE hF w M,fun j u hj=>?_,fun u hu=>?_,rfl⟩
   ·cases M with
    | nil=>simp at hj
    | cons y ys=>
     obtain ⟨g,o,ha,hg,hel⟩:=hM.2.2 (by simp)
     cases ha
     have hall:=oJ hE hF w g (y::ys) o fun i x hx=>by
      obtain ⟨us,hu,hr⟩:=hel i x hx
      rw [←hF.rd hr]
      exact hu
     have hadd:(⟨g,o,none⟩:Addr).add j=⟨g,o+j,none⟩:=by unfold Addr.add;split <;> simp_all
     rw [hadd]
     exact hall j u hj
   ·obtain ⟨y,hy,hu⟩:=List.mem_flatMap.1 hu
    exact hE.one (hE.qA (B:=0) (hF.ow w (fun _=>False) y) (fun k h=>h.elim)) u hu
  obtain ⟨v',w',hrun,hown,hgr,_,hat⟩:=run_append_own_at (P:=P) w lo t ty T i z E.size bytes ht hi hz hsize hby hzs hpos v L.length _ h.own x M.length cap news hlen hcells hone hL XI hlo
  rw [hnews,←List.flatMap_append,←List.length_append] at hown
  have hb:Below lo w w':=Eo hgr (fun k hk=>(h.blk k hk).1) hlo
  have hF2:jg E f w' lo T v' (L++M):=⟨hown,fun k hk=>by
   rcases hat with e | e
   ·rw [e] at hk;exact ⟨(h.blk k hk).1,bV (h.blk k hk).2 hb.size⟩
   ·rw [e] at hk
    cases hk
    rcases hown.2 with ⟨hn,_⟩ | ⟨g,cap',cur,hv,Te,hgg,_⟩
    ·rw [hn] at e;cases e
    ·rw [hv] at e
     cases e
     exact ⟨Te,(Array.getElem?_eq_some_iff.1 hgg).1⟩⟩
  obtain ⟨a',c',rfl⟩:=hF2.isSlice
  exact ⟨a',c',w',hrun,hF2,hb⟩
theorem jg.sl (hE:Ok E)(hF:Flat E f)(h:jg E f w lo T v L):∃ a c,v=.slice a L.length c∧bH E w (fun k=>v.ownBlock=some k) L a c:=by
 obtain ⟨hx,h2⟩:=h.own
 rcases h2 with ⟨rfl,h0⟩ | ⟨g,cap,cur,rfl,hlo,hg,hnc,hm,hc,htk⟩
 ·have:L = []:=List.eq_nil_of_length_eq_zero h0
  subst this
  exact ⟨none,0,rfl,bK _,dV _,fun h=>absurd h (jH _)⟩
 ·refine ⟨_,cap,rfl,hnc,hm,fun _=>⟨g,fun _ _=>False,rfl,rfl,fun j=>by simp [World.frozen?,hg],fun i k h=>h.elim,fun i j k _ h=>h.elim,fun q x hq=>⟨f x,fun j d hj=>?_,hF.ow _ _ _⟩⟩⟩
  have h4:=vC hE hF w L q x hq j d hj
  rw [←htk] at h4
  have h5:cur.toList[q*E.size+j]? = some d:=by
   rw [List.getElem?_take] at h4
   split at h4
   ·exact h4
   ·cases h4
  exact (cell_of_row w g _ cur _ _ hg).trans (by simpa using h5)
end
theorem jg.news {α:Type}{E:Rp α}{f:α→List Value}(hE:Ok E)(hF:Flat E f){W w:World}{lo:Nat}{T:TypeId}{v:Value}{L:List α}(h:jg E f w lo T v L)(hlo:W.heap.size≤lo)(hb:Below W.heap.size W w):jU E L W (.returned v) w:=by
 obtain ⟨a,c,rfl,ho⟩:=h.sl hE hF
 exact ⟨a,c,rfl,ho.more fun k hk=>⟨eF hlo (h.blk k hk).1,(h.blk k hk).2⟩,hb⟩
section
variable {α:Type}{E:Rp α}{f:α→List Value}{w w':World}{lo:Nat}{T:TypeId}{v:Value}{L:List α}
theorem Bb:∃ i,Tryz.prog.info? 49=some i∧i.zero=some (.agg #[.int .i64 0,.int .i64 0])∧i.size=2∧i.bytes=16:=by
 have h:(Tryz.prog.info? 49).map (fun i=>(i.zero,i.size,i.bytes))=some (some (.agg #[.int .i64 0,.int .i64 0]),2,16):=by kernel_rfl
 cases hx:Tryz.prog.info? 49 with
 | none=>rw [hx] at h;simp at h
 | some i=>rw [hx] at h;simp at h;exact ⟨i,rfl,h.1,h.2.1,h.2.2⟩
theorem ab1:∃ i,Tryz.prog.info? 2=some i∧i.zero=some (.int .i64 0)∧i.size=1∧i.bytes=8:=by
 have h:(Tryz.prog.info? 2).map (fun i=>(i.zero,i.size,i.bytes))=some (some (.int .i64 0),1,8):=by kernel_rfl
 cases hx:Tryz.prog.info? 2 with
 | none=>rw [hx] at h;simp at h
 | some i=>rw [hx] at h;simp at h;exact ⟨i,rfl,h.1,h.2.1,h.2.2⟩
theorem Vi:Flat I (fun x=>[.int .i64 x]):=⟨fun {W B x us} h=>h,fun W S x=>rfl⟩
abbrev xR (w:World)(lo:Nat)(v:Value)(L:List ay):Prop:=jg av (fun x=>[.int .i64 x.1,.int .i64 x.2]) w lo 49 v L
theorem xR.more {w:World}{lo:Nat}{v:Value}{L M:List ay}{a:Option Addr}{cap:Nat}(h:xR w lo v L)(hM:aJ av w w.heap.size M a cap)(hlo:lo≤w.heap.size)(hL:L.length+M.length≤8796093022208) :
 ∃ a' c' w',(Builtin.append_ #[155,155] 155 #[v,.slice a M.length cap]).run Tryz.prog w=.ok (.slice a' (L++M).length c') w'∧xR w' lo (.slice a' (L++M).length c') (L++M)∧Below lo w w':=by
 obtain ⟨i,hi',hz,hs,hby⟩:=Bb
 exact jg.more au mV h Tryz.underlying155 hi' hz hs hby rfl (by decide) hM hlo (by unfold maxLen;omega) (by omega)
theorem ZL {w:World}{g:Nat}(x0 x1:Int)(h:aO w g 49 #[.int .i64 x0,.int .i64 x1]):aJ av w w.heap.size [(x0,x1)] (some ⟨g,0,none⟩) 1:=by
 refine ⟨bK _,by unfold maxLen;omega,fun _=>⟨g,0,rfl,h.lt,fun i x hx=>?_⟩⟩
 cases i with
 | zero=>
  simp at hx
  subst hx
  refine ⟨[.int .i64 x0,.int .i64 x1],fun j c hj=>?_,Lm⟩
  simpa using h.at_ j (by simpa using hj)
 | succ i=>simp at hx
theorem ZM {w:World}{g:Nat}(x:Int)(h:aO w g 2 #[.int .i64 x]):aJ I w w.heap.size [x] (some ⟨g,0,none⟩) 1:=by
 refine ⟨bK _,by unfold maxLen;omega,fun _=>⟨g,0,rfl,h.lt,fun i x hx=>?_⟩⟩
 cases i with
 | zero=>
  simp at hx
  subst hx
  refine ⟨[.int .i64 x],fun j c hj=>?_,rfl⟩
  simpa using h.at_ j (by simpa using hj)
 | succ i=>simp at hx
abbrev Qg (w:World)(lo:Nat)(v:Value)(L:List Int):Prop:=jg I (fun x=>[.int .i64 x]) w lo 2 v L
theorem Qg.more {w:World}{lo:Nat}{v:Value}{L M:List Int}{a:Option Addr}{cap:Nat}(h:Qg w lo v L)(hM:aJ I w w.heap.size M a cap)(hlo:lo≤w.heap.size)(hL:L.length+M.length≤17592186044416) :
 ∃ a' c' w',(Builtin.append_ #[70,70] 70 #[v,.slice a M.length cap]).run Tryz.prog w=.ok (.slice a' (L++M).length c') w'∧Qg w' lo (.slice a' (L++M).length c') (L++M)∧Below lo w w':=by
 obtain ⟨i,hi',hz,hs,hby⟩:=ab1
 exact jg.more cK Vi h Tryz.underlying70 hi' hz hs hby rfl (by decide) hM hlo (by unfold maxLen;omega) (by omega)
theorem xR.grown {w:World}{n:Nat}(h0:0<n)(hn:n≤1099511627776):∃ c w',(Builtin.append_ #[155,3] 155 #[.slice none 0 0,.int .i64 n]).run Tryz.prog w=.ok (.slice (some ⟨w.heap.size,0,none⟩) n c) w'∧xR w' w.heap.size (.slice (some ⟨w.heap.size,0,none⟩) 0 c) []∧Below w.heap.size w w'∧n≤c:=by
 obtain ⟨i,hi',hz,hs,hby⟩:=Bb
 have hge:=grownCap_ge w n 0 49
 refine ⟨_,_,Lib.run_append_nil_zeros w 155 3 155 49 i _ .i64 .i64 Tryz.underlying155 Tryz.underlying3 hi' hz n h0 (by rw [hs];decide) (by omega) (by rw [hby];omega),⟨⟨by simp,.inr ⟨w.heap.size,_,_,rfl,bK _,heap_alloc_new w.drew _,dV _,grownCap_le_maxLen _ _ _ _ (by unfold maxLen;omega),?_,by simp⟩⟩,fun k hk=>(by cases hk;exact ⟨bK _,by simp⟩)⟩,((aW _ _).drew).alloc (by simp) _,hge⟩
 rw [Array.size_append,size_zeroCells,size_zeroCells]
 show _*2+_*2=_
 rw [←Nat.add_mul]
 congr 1
 omega
end
end
end aQ
namespace CF
section
open Go.Lib Go.Sort
abbrev Lb:=Int×Int
def uG (a b:Lb):Prop:=a.1<b.1∨a.1=b.1∧a.2<b.2
def Dv (k:Nat):Lb:=(((k / 8:Nat):Int),((k % 8:Nat):Int))
def jk (C:List (List Lb))(n:Nat):List Lb:=((List.range n).map Dv).filter (fun a=>decide (∃ x∈C,a∈x))
def iw (C:List (List Lb)):List Lb:=jk C 32
theorem LM {C:List (List Lb)}{k:Nat}(h:∃ x∈C,Dv k∈x):jk C (k+1)=jk C k++[Dv k]:=by
 unfold jk
 rw [List.range_succ,List.map_append,List.filter_append]
 simp only [List.map_cons,List.map_nil,List.filter_cons,decide_eq_true h,List.filter_nil,if_true]
theorem Rt {C:List (List Lb)}{k:Nat}(h:¬∃ x∈C,Dv k∈x):jk C (k+1)=jk C k:=by
 unfold jk
 rw [List.range_succ,List.map_append,List.filter_append]
 simp only [List.map_cons,List.map_nil,List.filter_cons,decide_eq_false h,List.filter_nil,Bool.false_eq_true,if_false,List.append_nil]
theorem BR (C:List (List Lb))(n:Nat):(jk C n).length≤n:=by
 unfold jk
 exact eF (List.length_filter_le _ _) (by simp)
theorem Bp {C:List (List Lb)}{a:Lb}:a∈iw C↔dH.rP a.1 a.2∧∃ x∈C,a∈x:=by
 unfold iw jk
 rw [List.mem_filter,List.mem_map]
 constructor
 ·rintro ⟨⟨k,hk,rfl⟩,h⟩
  rw [List.mem_range] at hk
  refine ⟨?_,of_decide_eq_true h⟩
  show 0≤((k / 8:Nat):Int)∧((k / 8:Nat):Int)≤3∧0≤((k % 8:Nat):Int)∧((k % 8:Nat):Int)≤7
  omega
 ·rintro ⟨⟨h1,h2,h3,h4⟩,h⟩
  obtain ⟨l,s⟩:=a
  refine ⟨⟨(8*l+s).toNat,?_,?_⟩,eD h⟩
  ·rw [List.mem_range];simp only at h1 h2 h3 h4;omega
  ·show ((((8*l+s).toNat / 8:Nat):Int),(((8*l+s).toNat % 8:Nat):Int))=(l,s)
   simp only at h1 h2 h3 h4
   rw [Prod.mk.injEq]
   omega
theorem rA (C:List (List Lb))(n:Nat):(jk C n).Pairwise uG:=by
 unfold jk
 refine List.Pairwise.filter _ ?_
 rw [List.pairwise_map]
 refine List.Pairwise.imp ?_ List.pairwise_lt_range
 intro i j h
 show ((i / 8:Nat):Int)<((j / 8:Nat):Int)∨((i / 8:Nat):Int)=((j / 8:Nat):Int)∧((i % 8:Nat):Int)<((j % 8:Nat):Int)
 omega
theorem yu {a b c:Lb}(h1:uG a b)(h2:uG b c):uG a c:=by unfold uG at *;omega
theorem vw {a:Lb}(h:uG a a):False:=by unfold uG at h;omega
theorem Rm (a b:Lb):uG a b∨a=b∨uG b a:=by
 unfold uG
 obtain ⟨p,q⟩:=a
 obtain ⟨r,s⟩:=b
 simp only [Prod.mk.injEq]
 omega
theorem yg:∀ {L M:List Lb},L.Pairwise uG→M.Pairwise uG→(∀ a,a∈L↔a∈M)→L=M
 | [],[],_,_,_=>rfl
 | [],y::ys,_,_,h=>by have:=(h y).2 List.mem_cons_self;cases this
 | x::xs,[],_,_,h=>by have:=(h x).1 List.mem_cons_self;cases this
 | x::xs,y::ys,hL,hM,h=>by
  rw [List.pairwise_cons] at hL hM
  have hxy:x=y:=by
   rcases List.mem_cons.1 ((h x).1 List.mem_cons_self) with e | e
   ·exact e
   ·rcases List.mem_cons.1 ((h y).2 List.mem_cons_self) with e2 | e2
    ·exact e2.symm
    ·exact (vw (yu (hL.1 _ e2) (hM.1 _ e))).elim
  subst hxy
  rw [yg hL.2 hM.2 fun a=>?_]
  constructor
  ·intro ha
   rcases List.mem_cons.1 ((h a).1 (List.mem_cons_of_mem _ ha)) with e | e
   ·subst e;exact (vw (hL.1 _ ha)).elim
   ·exact e
  ·intro ha
   rcases List.mem_cons.1 ((h a).2 (List.mem_cons_of_mem _ ha)) with e | e
   ·subst e;exact (vw (hM.1 _ ha)).elim
   ·exact e
theorem KT {L M:List Lb}(hL:L.Pairwise uG)(hM:M.Pairwise uG)(h:∀ a,a∈L→a∈M):L.length≤M.length:=by
 have e:L=M.filter (fun a=>decide (a∈L)):=yg hL (hM.filter _) fun a=>by
  rw [List.mem_filter]
  exact ⟨fun ha=>⟨h a ha,eD ha⟩,fun ha=>of_decide_eq_true ha.2⟩
 rw [e]
 exact List.length_filter_le _ _
theorem rG {d:Array Lb}(hs:∀ i j,i<j→j<d.size→¬uG d[j]! d[i]!) :
 ∀ m,m≤d.size→(compactUpTo d m).Pairwise uG∧(∀ a,a∈compactUpTo d m↔∃ j,j<m∧d[j]! = a)∧(∀ a∈compactUpTo d m,a=d[m-1]!∨uG a d[m-1]!)
 | 0,_=>by
  refine ⟨List.Pairwise.nil,fun a=>⟨fun h=>(by cases h),fun ⟨j,h,_⟩=>absurd h (gZ _)⟩,fun a h=>(by cases h)⟩
 | m+1,hm=>by
  obtain ⟨h1,h2,h3⟩:=rG hs m (by omega)
  rw [compactUpTo_succ]
  show _∧_∧∀ a∈_,a=d[m]!∨uG a d[m]!
  by_cases hk:keeps d m=true
  ·rw [if_pos hk]
   have hlt:∀ a∈compactUpTo d m,uG a d[m]!:=fun a ha=>by
    by_cases hm0:m=0
    ·subst hm0;cases ha
    ·have hne:d[m]!≠d[m-1]!:=by
      have:=of_decide_eq_true hk
      rcases this with h | h
      ·exact absurd h hm0
      ·exact h
     have hl:uG d[m-1]! d[m]!:=by
      rcases Rm d[m-1]! d[m]! with h | h | h
      ·exact h
      ·exact absurd h.symm hne
      ·exact absurd h (hs (m-1) m (by omega) (by omega))
     rcases h3 a ha with e | e
     ·rw [e];exact hl
     ·exact yu e hl
   refine ⟨?_,fun a=>?_,fun a ha=>?_⟩
   ·rw [List.pairwise_append]
    refine ⟨h1,List.pairwise_singleton _ _,fun a ha b hb=>?_⟩
    rw [List.mem_singleton] at hb
    subst hb
    exact hlt a ha
   ·rw [List.mem_append,List.mem_singleton,h2]
    constructor
    ·rintro (⟨j,hj,e⟩ | e)
     ·exact ⟨j,by omega,e⟩
     ·exact ⟨m,by omega,e.symm⟩
    ·rintro ⟨j,hj,e⟩
     by_cases hjm:j=m
     ·right;subst hjm;exact e.symm
     ·left;exact ⟨j,by omega,e⟩
   ·rw [List.mem_append,List.mem_singleton] at ha
    rcases ha with ha | ha
    ·right;exact hlt a ha
    ·left;exact ha
  ·rw [if_neg hk,List.append_nil]
   have hk':m≠0∧d[m]! = d[m-1]!:=by
    have h:¬(m=0∨d[m]!≠d[m-1]!):=fun h=>hk (eD h)
    exact ⟨fun e=>h (Or.inl e),Classical.byContradiction fun e=>h (Or.inr e)⟩
   refine ⟨h1,fun a=>?_,fun a ha=>?_⟩
   ·rw [h2]
    constructor
    ·rintro ⟨j,hj,e⟩;exact ⟨j,by omega,e⟩
    ·rintro ⟨j,hj,e⟩
     by_cases hjm:j=m
     ·subst hjm;exact ⟨j-1,by omega,hk'.2 ▸ e⟩
     ·exact ⟨j,by omega,e⟩
   ·rw [hk'.2];exact h3 a ha
abbrev Pr3:=Lb×Lb×Int
abbrev Qt:=Lb×Int
def okP (uM:List Lb)(P:List Pr3)(i:Nat)(x:Pr3):Prop:=x.1∈uM∧x.2.1∈uM∧dH.bB x.1.1 x.1.2 x.2.1.1 x.2.1.2=false∧bJ.dD x.2.2 1 3=true∧∀ (k:Nat) y,k<i→P[k]? = some y→¬(y.1=x.1∧y.2.1=x.2.1)
def jl (uM:List Lb)(P:List Pr3):Prop:=P.length≤4∧∀ (i:Nat) x,P[i]? = some x→okP uM P i x
def okQ (uM:List Lb)(Q:List Qt)(i:Nat)(x:Qt):Prop:=x.1∈uM∧bJ.dD x.2 1 9=true∧(0<i→∀ y,Q[i-1]? = some y→uG y.1 x.1)
def gT (uM:List Lb)(Q:List Qt):Prop:=∀ (i:Nat) x,Q[i]? = some x→okQ uM Q i x
theorem uy {uM:List Lb}:∀ {Q:List Qt},gT uM Q→(Q.map (·.1)).Pairwise uG
 | [],_=>List.Pairwise.nil
 | [x],_=>List.pairwise_singleton _ _
 | x::y::t,h=>by
  have ht:gT uM (y::t):=fun i z hz=>by
   obtain ⟨h1,h2,h3⟩:=h (i+1) z (by simpa using hz)
   refine ⟨h1,h2,fun hi w hw=>h3 (by omega) w ?_⟩
   show (x::y::t)[i]? = some w
   obtain ⟨i',rfl⟩:∃ i',i=i'+1:=⟨i-1,by omega⟩
   simpa using hw
  have hp:=uy ht
  rw [List.map_cons]
  refine List.pairwise_cons.2 ⟨fun a ha=>?_,hp⟩
  have hxy:uG x.1 y.1:=(h 1 y rfl).2.2 (by omega) x rfl
  rw [List.map_cons] at ha hp
  rcases List.mem_cons.1 ha with e | e
  ·rw [e];exact hxy
  ·exact yu hxy ((List.pairwise_cons.1 hp).1 a e)
theorem K8 {uM:List Lb}{Q:List Qt}(hl:uM.Pairwise uG)(h:gT uM Q):Q.length≤uM.length:=by
 refine eF (Nat.le_of_eq (show (Q.map (·.1)).length=Q.length from List.length_map _).symm) ?_
 refine KT (uy h) hl fun a ha=>?_
 obtain ⟨x,hx,rfl⟩:=List.mem_map.1 ha
 obtain ⟨i,hi⟩:=List.getElem?_of_mem hx
 exact (h i x hi).1
end
end CF
namespace aQ
section
open Go.RowKit bN bO bJ bQ CF
theorem yw {C:List (List ay)}{a:Option Addr}{cap:Nat}{W:World}(h:aJ (Sl av) W W.heap.size C a cap) :
 Calls Tryz.prog 102 #[.slice a C.length cap] W (jU av (iw C) W):=by
 have hn:C.length≤9223372036854775807:=by have h1:=h.1;have h2:=h.2.1;unfold maxLen at h2;omega
 have H:=ak h
 clear h
 go_enter Tryz.func102,Tryz.ntmps102
 go_wp2
 go_loopw [3,4] (fun v i wr=>∃ k lo:Nat,k≤32∧i=.int .i64 k∧W.heap.size≤lo∧lo≤wr.heap.size∧Hid (xR wr lo v (jk C k))∧Below W.heap.size W wr) (fun _ i _=>32-(intOf i).toNat)
 case atStart=>exact ⟨0,W.heap.size,by omega,rfl,bK _,by simp,ak (jg.made _ _ _ _),(aW _ _).alloc (bK _) _⟩
 case round=>
  obtain ⟨k,lo,hk,rfl,hlo,hlw,HV,hB⟩:=hrel
  obtain ⟨wo,rfl⟩:∃ x,x=wr:=⟨_,rfl⟩
  have HB:=ak hB
  have hsz:=hB.size
  clear hB
  obtain ⟨va,vc,rfl⟩:=HV.out.isSlice
  by_cases hlt:k<32
  ·have hd:decide ((k:Int)<32)=true:=eD (by omega)
   obtain ⟨l,hl⟩:∃ l:Int,l=(k:Int) / 8:=⟨_,rfl⟩
   obtain ⟨s,hs⟩:∃ s:Int,s=(k:Int) % 8:=⟨_,rfl⟩
   have hLA:=ak (show Dv k=(l,s) from by unfold Dv;rw [hl,hs];rfl)
   obtain ⟨w1,hw1⟩:∃ w,w=wo.alloc (.cells #[.int .i64 ((k:Int) / 8),.int .i64 ((k:Int) % 8)] 49):=⟨_,rfl⟩
   have iE:Below wo.heap.size wo w1:=by rw [hw1];exact (aW _ _).alloc (bK _) _
   have cZ:=ak (show aO w1 wo.heap.size 49 #[.int .i64 l,.int .i64 s] from by rw [hw1,hl,hs];exact aO.new _ _ _)
   clear hl hs
   have HB1:=ak (HB.out.trans (iE.mono hsz))
   have HV1:=ak (HV.out.call iE)
   have hz1:=HB1.out.size
   have hzA:=iE.size
   clear HV
   go_wp2
   rw [←hw1]
   clear hw1
   go_loopw [6,7] (fun f i wr=>∃ (j:Nat) (b:Bool),j≤C.length∧i=.int .i64 j∧f=.bool b∧Hid (b=true↔∃ x∈C.take j,(l,s)∈x)∧Below w1.heap.size w1 wr) (fun _ i _=>C.length-(intOf i).toNat)
   case atStart=>exact ⟨0,false,dV _,rfl,rfl,ak (by simp),aW _ _⟩
   case round=>
    obtain ⟨j,b,hj,rfl,rfl,Dp,hB⟩:=hrel
    have HB2:=ak hB
    have HB3:=ak (HB1.out.trans (hB.mono hz1))
    have iG:=ak (cZ.out.call hB)
    have hz2:=hB.size
    clear hB
    by_cases hjl:j<C.length
    ·have hd2:decide ((j:Int)<(C.length:Int))=true:=eD (by omega)
     obtain ⟨x,hx⟩:=aM hjl
     have HX:=ak (show C.take (j+1)=C.take j++[x] from by rw [List.take_add_one,hx];rfl)
     cases b with
     | true=>
      have nJ:=ak (show ∃ x∈C.take (j+1),(l,s)∈x from by
       obtain ⟨y,hy,hm⟩:=Dp.out.1 rfl
       exact ⟨y,by rw [HX.out];exact List.mem_append_left _ hy,hm⟩)
      clear hx
      go_wp2_with fail
      refine dX (S:=(fun V=>Below (wr).heap.size (wr) V)) (by kernel_rfl) ((aW _ _).drew) (fun ah=>?_)
      refine tk 0 ah ?_
      refine tk 1 ah ?_
      refine tn 2 ah ?_
      refine tn 3 ah ?_
      refine tn 4 ah ?_
      refine tn 5 ah ?_
      refine tn 6 ah ?_
      refine tn 7 ah ?_
      refine tk 8 ah ?_
      refine tk 9 ah ?_
      refine dQ ?_
      have HF:=ak ah
      clear ah
      have jL:=ak (HB2.out.trans (HF.out.mono hz2))
      clear HF
      go_wp2
      go_roundw
      case rel=>exact ⟨j+1,true,by omega,by go_num,rfl,ak ⟨fun _=>nJ.out,fun _=>rfl⟩,jL.out⟩
      case measure=>simp [intOf];omega
     | false=>
      obtain ⟨g,o,us,rfl,hg,hu,hr⟩:=(H.out.below (aZ au) HB3.out).at_ hx
      obtain ⟨a1,c1,rfl,uH⟩:=hr
      have e0:wr.cell? ⟨g,o+j,none⟩=some (.slice a1 x.length c1):=by simpa [jP] using hu 0 _ rfl
      have hi0:(0:Int)≤(j:Int):=eu _
      have hi1:(j:Int)<(C.length:Int):=by omega
      have HG:=ak (show g<wr.heap.size by omega)
      have HK:=ak (uH.more au (show W.heap.size≤wr.heap.size by omega))
      clear hx hu uH hg
      go_wp2_with fail
      refine dX (S:=(fun V=>Below (wr).heap.size (wr) V)) (by kernel_rfl) ((aW _ _).drew) (fun ah=>?_)
      refine tk 0 ah ?_
      refine tk 1 ah ?_
      refine tk 2 ah ?_
      refine tk 3 ah ?_
      refine tk 4 ah ?_
      refine tk 5 ah ?_ (hy:=fun w aj=>by (try dsimp only at aj);have k0:=(aj.cell (p:=⟨g,o+j,none⟩) HG.out).trans e0;clear aj;go_simp;try with_reducible rfl)
      refine tk 6 ah ?_ (hy:=fun w aj=>by (try dsimp only at aj);have k0:=iG.out.hat aj 0 rfl;have k1:=iG.out.hat aj 1 rfl;clear aj;go_simp;try with_reducible rfl)
      refine dw 7 (fun K hK=>?_)
      go_simp
      go_at_call 103
      refine (dW (aD au HK.out ah)).mono ?_
      intro e w4 h
      obtain ⟨q,rfl,hq2,hb⟩:=bq h
      have HQ:=ak hq2
      clear h hq2
      refine hK.out _ _ (ah.trans (hb.mono ah.size)) (fun ah=>?_)
      clear hK K hb
      refine tk 8 ah ?_
      refine tk 9 ah ?_
      refine dQ ?_
      have HF:=ak ah
      clear ah
      have nJ:=ak (show q=true↔∃ x∈C.take (j+1),(l,s)∈x from by
       rw [HX.out,HQ.out]
       constructor
       ·intro hm;exact ⟨x,List.mem_append_right _ (List.mem_singleton.2 rfl),hm⟩
       ·rintro ⟨y,hy,hm⟩
        rcases List.mem_append.1 hy with hy | hy
        ·exact absurd (Dp.out.2 ⟨y,hy,hm⟩) (by simp)
        ·rw [List.mem_singleton] at hy;subst hy;exact hm)
      have jL:=ak (HB2.out.trans (HF.out.mono hz2))
      clear HF
      go_wp2
      go_roundw
      case rel=>exact ⟨j+1,q,by omega,by go_num,rfl,nJ,jL.out⟩
      case measure=>simp [intOf];omega
    ·have hd2:decide ((j:Int)<(C.length:Int))=false:=dS (by omega)
     have HT:=ak (show C.take j=C from List.take_of_length_le (by omega))
     have HV3:=ak (HV1.out.call HB2.out)
     cases b with
     | false=>
      have HE:=ak (show jk C (k+1)=jk C k from Rt (by
       rw [hLA.out];intro hm
       rw [←HT.out] at hm
       exact absurd (Dp.out.2 hm) (by simp)))
      go_wp2
      go_roundw
      case rel=>exact ⟨k+1,lo,by omega,by go_num,hlo,by omega,ak (by rw [HE.out];exact HV3.out),HB3.out⟩
      case measure=>simp [intOf];omega
     | true=>
      have HE:=ak (show jk C (k+1)=jk C k++[(l,s)] from by
       rw [←hLA.out]
       refine LM ?_
       rw [hLA.out]
       have:=Dp.out.1 rfl
       rw [HT.out] at this
       exact this)
      obtain ⟨q0,q1⟩:=iG.out.kS rfl
      obtain ⟨w5,Dm⟩:∃ w,w=wr.alloc (.cells #[.int .i64 l,.int .i64 s] 49):=⟨_,rfl⟩
      have Xo:Below wr.heap.size wr w5:=by rw [Dm];exact (aW _ _).alloc (bK _) _
      have xA:aO w5 wr.heap.size 49 #[.int .i64 l,.int .i64 s]:=by rw [Dm];exact aO.new _ _ _
      have hlen:=BR C k
      have uI:=Xo.size
      obtain ⟨a',c',w6,hrun,hrow,hb6⟩:=xR.more (HV3.out.call Xo) (ZL l s xA) (show lo≤w5.heap.size by omega) (by simp only [List.length_singleton];omega)
      have HR:=ak hrun
      have HV6:=ak hrow
      have xC:=ak ((HB3.out.trans (Xo.mono (by omega))).trans (hb6.mono (by omega)))
      have hz6:=hb6.size
      rw [Dm] at HR
      have HW5:=ak Dm
      clear hrun hrow hb6 Xo xA Dm
      go_wp2_with (at_builtin;refine dZ rfl (.tmp 34) (.tmp 36) 155 rfl rfl rfl HR.out ?_)
      go_roundw
      case rel=>exact ⟨k+1,lo,by omega,by go_num,hlo,by omega,ak (by rw [HE.out];simpa using HV6.out),xC.out⟩
      case measure=>simp [intOf];omega
  ·have hd:decide ((k:Int)<32)=false:=dS (by omega)
   obtain rfl:k=32:=by omega
   go_wp2
   go_ret
   exact jg.news au mV HV.out hlo HB.out
end
end aQ
end Go.Proofs.YtlhfiapfncikdaaGreatDoor
