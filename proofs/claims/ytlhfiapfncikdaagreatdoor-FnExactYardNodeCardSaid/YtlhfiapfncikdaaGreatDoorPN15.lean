import Derived.Test.YtlhfiapfncikdaaGreatDoorPN6
import Derived.Test.YtlhfiapfncikdaaGreatDoorPN10
import Derived.Test.YtlhfiapfncikdaaGreatDoorPN13
set_option linter.unusedVariables false
set_option linter.unusedSimpArgs false
set_option maxRecDepth 100000
set_option maxHeartbeats 3200000
namespace Go.Proofs.YtlhfiapfncikdaaGreatDoor
namespace aQ
section
open Go.RowKit bN bO bJ bQ eO
open Classical in
noncomputable def j4 (s:ByteArray):Bool:=decide (nM s)
open Classical in
theorem jS {s:ByteArray}:j4 s=true↔nM s:=by unfold j4;simp
theorem Hf {s:ByteArray}{w w':World}{e:Ending}(h:eO.Res (nM s) w e w'):e=.returned (.bool (j4 s))∧Below w.heap.size w w':=by
 obtain ⟨b,rfl,hb,rfl⟩:=h
 have:b=j4 s:=by
  cases b <;> cases hn:j4 s
  ·rfl
  ·exact absurd (hb.2 (jS.1 hn)) (by decide)
  ·exact absurd (jS.2 (hb.1 rfl)) (by rw [hn];decide)
  ·rfl
 exact ⟨by rw [this],aW _ _⟩
theorem ns_w (s:ByteArray)(hs:s.size≤maxLen)(w:World):Calls Tryz.prog 163 #[.string s] w fun e w'=>e=.returned (.bool (j4 s))∧Below w.heap.size w w':=(G8 s w hs).mono fun _ _ h=>Hf h
theorem ni_w (s:ByteArray)(hs:s.size≤maxLen)(w:World):Calls Tryz.prog 197 #[.string s] w fun e w'=>e=.returned (.bool (j4 s))∧Below w.heap.size w w':=(Im s w hs).mono fun _ _ h=>Hf h
theorem is_w (n lo hi:Int)(w:World):Calls Tryz.prog 157 #[.int .i64 n,.int .i64 lo,.int .i64 hi] w fun e w'=>e=.returned (.bool (dD n lo hi))∧Below w.heap.size w w':=(pW n lo hi w).mono fun _ _ ⟨h1,h2⟩=>⟨h1,by rw [h2];exact aW _ _⟩
theorem ur_w (n:Int)(w:World):Calls Tryz.prog 198 #[.int .i64 n] w fun e w'=>e=.returned (.bool (dD n 1 100000))∧Below w.heap.size w w':=by
 go_enter Tryz.func198,Tryz.ntmps198
 go_wp2_with (go_at_call 191;refine (lF _ _ _ _).mono ?_;rintro e w' ⟨rfl,rfl⟩)
 go_ret
 exact ⟨rfl,aW _ _⟩
theorem Gw {l s:Int}(h:dH.rB l s=true):0≤l∧l≤3∧0≤s∧s≤7:=by simpa [dH.AX,dH.rP] using h
theorem Nc {l s:Int}(h:dH.rB l s=true)(w:World):Calls Tryz.prog 124 #[.agg #[.int .i64 l,.int .i64 s]] w fun e w'=>e=.returned (.int .i64 (8*l+s))∧Below w.heap.size w w':=by
 obtain ⟨h1,h2,h3,h4⟩:=Gw h
 go_enter Tryz.func124,Tryz.ntmps124
 go_wp2
 go_ret
 exact ⟨rfl,(aW _ _).alloc (bK _) _⟩
def yH (x y:bI):Bool:=if decide (x.1=y.1)=true then Cv x.2.1 y.2.1 else decide (8*x.1.1+x.1.2<8*y.1.1+y.1.2)
theorem Ed {x y:bI}(hx:dH.rB x.1.1 x.1.2=true)(hy:dH.rB y.1.1 y.1.2=true):yH x y=true↔ltU x y:=by
 obtain ⟨⟨a,b⟩,o,n⟩:=x
 obtain ⟨⟨c,d⟩,p,m⟩:=y
 have h1:=Gw hx
 have h2:=Gw hy
 unfold yH ltU jY
 simp only at *
 split
 ·rename_i h
  simp only [decide_eq_true_eq,Prod.mk.injEq] at h
  obtain ⟨rfl,rfl⟩:=h
  simp
 ·rename_i h
  simp only [decide_eq_true_eq,Prod.mk.injEq] at h
  simp only [decide_eq_true_eq,Prod.mk.injEq]
  constructor
  ·intro h3;left;omega
  ·rintro (h3 | ⟨h3,_⟩) <;> omega
theorem abZ {x0 x1 x3 y0 y1 y3:Int}{x2 y2:ByteArray}(hx:dH.rB x0 x1=true)(hy:dH.rB y0 y1=true)(W:World) :
 Calls Tryz.prog 164 #[.agg #[.int .i64 x0,.int .i64 x1,.string x2,.int .i64 x3],.agg #[.int .i64 y0,.int .i64 y1,.string y2,.int .i64 y3]] W fun e w'=>e=.returned (.bool (yH ((x0,x1),x2,x3) ((y0,y1),y2,y3)))∧Below W.heap.size W w':=by
 obtain ⟨V0,xw⟩:∃ V0,V0=(W.alloc (.cells #[.int .i64 x0,.int .i64 x1,.string x2,.int .i64 x3] 128)).alloc (.cells #[.int .i64 y0,.int .i64 y1,.string y2,.int .i64 y3] 128):=⟨_,rfl⟩
 have BA:=ak (show aO V0 W.heap.size 128 #[.int .i64 x0,.int .i64 x1,.string x2,.int .i64 x3] from by rw [xw];exact (aO.new W _ _).alloc _)
 have BB:=ak (show aO V0 (W.heap.size+1) 128 #[.int .i64 y0,.int .i64 y1,.string y2,.int .i64 y3] from by
  have h9:=aO.new (W.alloc (.cells #[.int .i64 x0,.int .i64 x1,.string x2,.int .i64 x3] 128)) 128 #[.int .i64 y0,.int .i64 y1,.string y2,.int .i64 y3]
  simp only [World.size_alloc] at h9
  rw [xw];exact h9)
 have HB0:=ak (show Below W.heap.size W V0 from by rw [xw];exact ((aW _ _).alloc (bK _) _).alloc (by simp) _)
 obtain ⟨b,hb⟩:∃ b,decide (((x0,x1):Int×Int)=(y0,y1))=b:=⟨_,rfl⟩
 have hn:=wI x0 x1 y0 y1 b hb
 cases b with
 | true=>
  have HE:=ak (show yH ((x0,x1),x2,x3) ((y0,y1),y2,y3)=Cv x2 y2 from by unfold yH;rw [if_pos hb])
  clear hb
  rw [xw] at HB0
  clear xw BA BB
  go_enter Tryz.func164,Tryz.ntmps164
  go_wp2
  go_ret
  exact ⟨by rw [HE.out];rfl,HB0.out⟩
 | false=>
  have HE:=ak (show yH ((x0,x1),x2,x3) ((y0,y1),y2,y3)=decide (8*x0+x1<8*y0+y1) from by unfold yH;rw [if_neg (by rw [hb];decide)])
  clear hb
  obtain ⟨a0,a1⟩:=BA.out.kS rfl
  obtain ⟨b0,b1⟩:=BB.out.kS rfl
  rw [xw] at a0 a1 b0 b1
  go_enter Tryz.func164,Tryz.ntmps164
  go_wp2_with fail
  rw [←xw]
  clear xw a0 a1 b0 b1 hn
  refine dX (S:=(fun V=>Below (V0).heap.size (V0) V)) (by kernel_rfl) ((aW _ _).drew) (fun ah=>?_)
  refine tk 0 ah ?_
  refine tk 1 ah ?_ (hy:=fun w aj=>by (try dsimp only at aj);have k0:=BA.out.hat aj 0 rfl;have k1:=BA.out.hat aj 1 rfl;clear aj;go_simp;try with_reducible rfl)
  refine tk 3 ah ?_
  refine tk 4 ah ?_ (hy:=fun w aj=>by (try dsimp only at aj);have k0:=BB.out.hat aj 0 rfl;have k1:=BB.out.hat aj 1 rfl;clear aj;go_simp;try with_reducible rfl)
  refine dw 2 (fun K hK=>?_)
  go_simp
  go_at_call 124
  refine (Nc hx _).mono ?_
  rintro e w1 ⟨rfl,hb⟩
  refine hK.out _ _ (ah.trans (hb.mono ah.size)) (fun ah=>?_)
  clear hK K hb
  refine dw 5 (fun K hK=>?_)
  go_simp
  go_at_call 124
  refine (Nc hy _).mono ?_
  rintro e w2 ⟨rfl,hb⟩
  refine hK.out _ _ (ah.trans (hb.mono ah.size)) (fun ah=>?_)
  clear hK K hb
  refine tk 6 ah ?_
  refine tk 7 ah ?_
  refine dQ ?_
  have HF:=ak ah
  clear ah
  have HB1:=ak (HB0.out.trans (HF.out.mono HB0.out.size))
  go_wp2
  go_ret
  exact ⟨by rw [HE.out];rfl,HB1.out⟩
end
section
open Go.RowKit bN bO bJ bQ
def okN (L:List Int)(i:Nat):Prop:=∀ x,L[i]? = some x→dD x 0 5=true∧(0<i→∀ y,L[i-1]? = some y→y<x)
def mP (L:List Int):Prop:=∀ i,i<L.length→okN L i
theorem Ig (n lo hi:Int){b:Bool}(hb:dD n lo hi=b)(w:World) :
 Calls Tryz.prog 157 #[.int .i64 n,.int .i64 lo,.int .i64 hi] w fun e w'=>e=.returned (.bool b)∧Below w.heap.size w w':=by
 subst hb
 exact (pW n lo hi w).mono fun _ _ ⟨h1,h2⟩=>⟨h1,h2 ▸ aW _ _⟩
theorem kE {L:List Int}{a:Option Addr}{cap:Nat}{W:World}(h:aJ I W W.heap.size L a cap) :
 Calls Tryz.prog 186 #[.slice a L.length cap] W (jf (mP L) W):=by
 have hn:L.length≤9223372036854775807:=by have h1:=h.1;have h2:=h.2.1;unfold maxLen at h2;omega
 have H:=ak h
 clear h
 go_enter Tryz.func186,Tryz.ntmps186
 go_wp2
 go_loopw [3] (fun i wr=>∃ k:Nat,k≤L.length∧i=.int .i64 k∧(∀ j,j<k→okN L j)∧Below W.heap.size W wr) (fun i _=>L.length-(intOf i).toNat)
 case atStart=>exact ⟨0,dV _,rfl,fun j h=>absurd h (gZ _),aW _ _⟩
 case round=>
  obtain ⟨k,hk,rfl,hall,hB⟩:=hrel
  have HA:=ak hall
  have HB:=ak hB
  have hsz:=hB.size
  clear hall
  by_cases hlt:k<L.length
  ·obtain ⟨x,hx⟩:=aM hlt
   have HX:=ak hx
   obtain ⟨g,o,us,rfl,hg,hu,hr⟩:=(H.out.below cK hB).at_ hx
   obtain rfl:us = [_]:=hr
   have hc0:wr.cell? ⟨g,o+k,none⟩=some (.int .i64 x):=by simpa [show I.size=1 from rfl] using hu 0 _ rfl
   have hgl:g<wr.heap.size:=bV hg hsz
   have hi0:(0:Int)≤(k:Int):=eu _
   have hi1:(k:Int)<(L.length:Int):=by omega
   clear hB hx hu
   cases hr:dD x 0 5 with
   | false=>
    have Hno:=ak (show ¬mP L from fun h=>by have:=(h k hlt x HX.out).1;rw [hr] at this;cases this)
    have hrs:=fun W=>Ig x 0 5 hr W
    clear hr
    go_wp2_with fail
    refine dX (S:=(fun V=>V.cell? ⟨g,o+k,none⟩=some (.int .i64 x)∧wr.heap.size≤V.heap.size∧Below (W.heap.size) (W) V)) (by kernel_rfl) (⟨hc0,bK _,HB.out.drew⟩) (fun ah=>?_)
    refine tk 0 ah ?_
    refine tk 1 ah ?_
    refine tk 2 ah ?_
    refine tk 3 ah ?_
    refine dw 4 (fun K hK=>?_)
    go_simp
    go_at_call 157;refine (hrs _).mono ?_;rintro e w1 ⟨rfl,hb⟩
    refine hK.out _ _ (⟨(hb.cell (p:=⟨g,o+k,none⟩) (bV hgl ah.2.1)).trans ah.1,eF ah.2.1 hb.size,ah.2.2.trans (hb.mono (eF hsz ah.2.1))⟩) (fun ah=>?_)
    clear hK K
    refine tk 5 ah ?_
    refine tk 6 ah ?_
    refine tn 7 ah ?_
    refine tn 8 ah ?_
    refine tn 9 ah ?_
    refine tn 10 ah ?_
    refine tn 11 ah ?_
    refine tn 12 ah ?_
    refine tn 13 ah ?_
    refine tn 14 ah ?_
    refine tn 15 ah ?_
    refine tn 16 ah ?_
    refine tn 17 ah ?_
    refine tn 18 ah ?_
    refine tn 19 ah ?_
    refine tn 20 ah ?_
    refine tk 21 ah ?_
    refine dQ ?_
    have HF:=ak ah.2.2
    clear ah
    go_wp2
    go_ret
    exact aB Hno.out HF.out
   | true=>
    have hrs:=fun W=>Ig x 0 5 hr W
    have Hr:=ak hr
    clear hr
    rcases Nat.eq_zero_or_pos k with hk0 | hk0
    ·subst hk0
     have hc0':wr.cell? ⟨g,o,none⟩=some (.int .i64 x):=hc0
     clear hc0
     have kX:=ak (iT HA.out (show okN L 0 from fun y hy=>by have:=HX.out;rw [hy] at this;obtain rfl:=fC this;exact ⟨Hr.out,fun h=>absurd h (jH _)⟩))
     go_wp2_with fail
     refine dX (S:=(fun V=>V.cell? ⟨g,o,none⟩=some (.int .i64 x)∧wr.heap.size≤V.heap.size∧Below (W.heap.size) (W) V)) (by kernel_rfl) (⟨hc0',bK _,HB.out.drew⟩) (fun ah=>?_)
     refine tk 0 ah ?_
     refine tk 1 ah ?_
     refine tk 2 ah ?_
     refine tk 3 ah ?_
     refine dw 4 (fun K hK=>?_)
     go_simp
     go_at_call 157;refine (hrs _).mono ?_;rintro e w1 ⟨rfl,hb⟩
     refine hK.out _ _ (⟨(hb.cell (p:=⟨g,o,none⟩) (bV hgl ah.2.1)).trans ah.1,eF ah.2.1 hb.size,ah.2.2.trans (hb.mono (eF hsz ah.2.1))⟩) (fun ah=>?_)
     clear hK K
     refine tk 5 ah ?_
     refine tk 6 ah ?_
     refine tk 7 ah ?_
     refine tk 8 ah ?_
     refine tk 9 ah ?_
     refine tn 10 ah ?_
     refine tn 11 ah ?_
     refine tn 12 ah ?_
     refine tn 13 ah ?_
     refine tn 14 ah ?_
     refine tn 15 ah ?_
     refine tn 16 ah ?_
     refine tn 17 ah ?_
     refine tn 18 ah ?_
     refine tn 19 ah ?_
     refine tk 20 ah ?_
     refine tk 21 ah ?_
     refine dQ ?_
     have HF:=ak ah.2.2
     clear ah
     go_wp2
     go_roundw
     case rel=>exact ⟨1,by omega,by go_num,kX.out,HF.out⟩
     case measure=>simp [intOf];omega
    ·obtain ⟨j,rfl⟩:∃ j,k=j+1:=⟨k-1,by omega⟩
     obtain ⟨y,hy⟩:=aM (L:=L) (k:=j) (by omega)
     have HY:=ak hy
     obtain ⟨g2,o2,us,he,hg2,hu,hr⟩:=(H.out.below cK HB.out).at_ hy
     cases he
     obtain rfl:us = [_]:=hr
     have hd0:wr.cell? ⟨g,o+j,none⟩=some (.int .i64 y):=by simpa [show I.size=1 from rfl] using hu 0 _ rfl
     have hj0:(0:Int)≤(j:Int):=eu _
     have hj1:(j:Int)<(L.length:Int):=by omega
     have YP:IntKind.i64.wrap (j:Int)=(j:Int):=gK _ (by omega)
     have YR:(0:Int)≤(j:Int)+1:=by omega
     have YQ:(j:Int)+1<(L.length:Int):=by omega
     have XF:IntKind.i64.wrap ((j:Int)+1-1)=(j:Int):=(by rw [show (j:Int)+1-1=(j:Int) by omega];exact gK _ (by omega))
     have hjp:decide ((0:Int)<(j:Int)+1)=true:=eD (by omega)
     clear hy hu hg2
     by_cases hlo:x≤y
     ·have Hno:=ak (show ¬mP L from fun h=>by have h2:=(h (j+1) hlt x HX.out).2 (Nat.succ_pos _) y HY.out;omega)
      have hlo':decide (x≤y)=true:=eD hlo
      go_wp2_with fail
      refine dX (S:=(fun V=>V.cell? ⟨g,o+j,none⟩=some (.int .i64 y)∧V.cell? ⟨g,o+(j+1),none⟩=some (.int .i64 x)∧wr.heap.size≤V.heap.size∧Below (W.heap.size) (W) V)) (by kernel_rfl) (⟨hd0,hc0,bK _,HB.out.drew⟩) (fun ah=>?_)
      refine tk 0 ah ?_
      refine tk 1 ah ?_
      refine tk 2 ah ?_
      refine tk 3 ah ?_
      refine dw 4 (fun K hK=>?_)
      go_simp
      go_at_call 157;refine (hrs _).mono ?_;rintro e w1 ⟨rfl,hb⟩
      refine hK.out _ _ (⟨(hb.cell (p:=⟨g,o+j,none⟩) (bV hgl ah.2.2.1)).trans ah.1,(hb.cell (p:=⟨g,o+(j+1),none⟩) (bV hgl ah.2.2.1)).trans ah.2.1,eF ah.2.2.1 hb.size,ah.2.2.2.trans (hb.mono (eF hsz ah.2.2.1))⟩) (fun ah=>?_)
      clear hK K
      refine tk 5 ah ?_
      refine tk 6 ah ?_
      refine tk 7 ah ?_
      refine tk 8 ah ?_
      refine tk 9 ah ?_
      refine tk 10 ah ?_
      refine tk 11 ah ?_
      refine tk 12 ah ?_
      refine tk 13 ah ?_
      refine tk 14 ah ?_
      refine tk 15 ah ?_
      refine tk 16 ah ?_
      refine tk 17 ah ?_
      refine tk 18 ah ?_
      refine tk 19 ah ?_
      refine tk 20 ah ?_
      refine tk 21 ah ?_
      refine dQ ?_
      have HF:=ak ah.2.2.2
      clear ah
      go_wp2
      go_ret
      exact aB Hno.out HF.out
     ·have kX:=ak (iT HA.out (show okN L (j+1) from fun z hz=>by
       have:=HX.out;rw [hz] at this;obtain rfl:=fC this
       exact ⟨Hr.out,fun _ u hu=>by have h3:=HY.out;rw [Nat.add_sub_cancel] at hu;rw [hu] at h3;obtain rfl:=fC h3;omega⟩))
      have hlo':decide (x≤y)=false:=dS hlo
      go_wp2_with fail
      refine dX (S:=(fun V=>V.cell? ⟨g,o+j,none⟩=some (.int .i64 y)∧V.cell? ⟨g,o+(j+1),none⟩=some (.int .i64 x)∧wr.heap.size≤V.heap.size∧Below (W.heap.size) (W) V)) (by kernel_rfl) (⟨hd0,hc0,bK _,HB.out.drew⟩) (fun ah=>?_)
      refine tk 0 ah ?_
      refine tk 1 ah ?_
      refine tk 2 ah ?_
      refine tk 3 ah ?_
      refine dw 4 (fun K hK=>?_)
      go_simp
      go_at_call 157;refine (hrs _).mono ?_;rintro e w1 ⟨rfl,hb⟩
      refine hK.out _ _ (⟨(hb.cell (p:=⟨g,o+j,none⟩) (bV hgl ah.2.2.1)).trans ah.1,(hb.cell (p:=⟨g,o+(j+1),none⟩) (bV hgl ah.2.2.1)).trans ah.2.1,eF ah.2.2.1 hb.size,ah.2.2.2.trans (hb.mono (eF hsz ah.2.2.1))⟩) (fun ah=>?_)
      clear hK K
      refine tk 5 ah ?_
      refine tk 6 ah ?_
      refine tk 7 ah ?_
      refine tk 8 ah ?_
      refine tk 9 ah ?_
      refine tk 10 ah ?_
      refine tk 11 ah ?_
      refine tk 12 ah ?_
      refine tk 13 ah ?_
      refine tk 14 ah ?_
      refine tk 15 ah ?_
      refine tk 16 ah ?_
      refine tk 17 ah ?_
      refine tk 18 ah ?_
      refine tk 19 ah ?_
      refine tk 20 ah ?_
      refine tk 21 ah ?_
      refine dQ ?_
      have HF:=ak ah.2.2.2
      clear ah
      go_wp2
      go_roundw
      case rel=>exact ⟨j+2,by omega,by go_num,kX.out,HF.out⟩
      case measure=>simp [intOf];omega
  ·have Hy:=ak (show mP L from fun i hi=>HA.out i (by omega))
   clear hB
   go_wp2
   go_ret
   exact bM Hy.out HB.out
end
section
open Go.RowKit bN bO bJ bQ eO
def Ev (need start:Int)(L:List Int):Prop:=dD start 0 1000000=true∧(L.length:Int)=need∧mP L
def Ew (start:Int)(L:List Int):Prop:=start=0∧L.length=0
def xQ (l s id ul us after:Int):Prop:=(after=0→ul=0∧us=0)∧(after≠0→dD after 1 12=true∧dH.iV ul us l s=true∧¬((ul=l∧us=s)∧id≤after))
def Has (st:Int)(L:List Int):Prop:=st=2∨(st=1∧0<L.length)
def bZ:aF→Prop
 | ((l,s),id,ow,need,long,prio,(ul,us),after,born,st,start,L)=>dH.rB l s=true∧dD id 1 12=true∧j4 ow=true∧dD need 1 6=true∧dD long 1 20=true∧dD prio 0 9=true∧dD born 0 999900=true∧dD st 1 6=true∧xQ l s id ul us after∧(Has st L→Ev need start L)∧(¬Has st L→Ew start L)
open Classical in
noncomputable def Dr (x:aF):Bool:=decide (bZ x)
open Classical in
theorem lN {x:aF}:Dr x=true↔bZ x:=by unfold Dr;simp
abbrev Ey (x:aF):ay:=x.1
abbrev JI (x:aF):Int:=x.2.1
abbrev U5 (x:aF):ByteArray:=x.2.2.1
abbrev acz (x:aF):Int:=x.2.2.2.1
abbrev Dt (x:aF):Int:=x.2.2.2.2.1
abbrev abL (x:aF):ay:=x.2.2.2.2.2.2.1
abbrev U6 (x:aF):Int:=x.2.2.2.2.2.2.2.1
abbrev aaq (x:aF):Int:=x.2.2.2.2.2.2.2.2.1
abbrev kU (x:aF):Int:=x.2.2.2.2.2.2.2.2.2.1
abbrev jW (x:aF):Int:=x.2.2.2.2.2.2.2.2.2.2.1
abbrev jF (x:aF):List Int:=x.2.2.2.2.2.2.2.2.2.2.2
abbrev nk (x:aF):ay×Int:=(x.1,x.2.1)
theorem bZ.lab {x:aF}(h:bZ x):dH.rB (Ey x).1 (Ey x).2=true:=h.1
theorem bZ.id {x:aF}(h:bZ x):1≤JI x∧JI x≤12:=(dG _ _ _).1 h.2.1
def FT (a b:ay×Int):Prop:=jY a.1 b.1∨(a.1=b.1∧a.2<b.2)
theorem sF {a b c:ay×Int}(h1:FT a b)(h2:FT b c):FT a c:=by
 obtain ⟨⟨a0,a1⟩,a2⟩:=a;obtain ⟨⟨b0,b1⟩,b2⟩:=b;obtain ⟨⟨c0,c1⟩,c2⟩:=c
 unfold FT jY at *
 simp only [Prod.mk.injEq] at *
 omega
theorem kF {a:ay×Int}:¬FT a a:=by
 obtain ⟨⟨a0,a1⟩,a2⟩:=a
 unfold FT jY
 simp only [Prod.mk.injEq]
 omega
def qN (L:List aF)(n:Nat):Prop:=∀ i j x y,i<j→j<n→L[i]? = some x→L[j]? = some y→FT (nk x) (nk y)
theorem qN.zero {L:List aF}:qN L 0:=fun i j x y _ h=>absurd h (gZ _)
theorem qN.step {L:List aF}{n:Nat}{x:aF}(h:qN L n)(hx:L[n]? = some x)(hl:∀ y,0<n→L[n-1]? = some y→FT (nk y) (nk x)):qN L (n+1):=by
 intro i j u v hij hj hu hv
 by_cases e:j=n
 ·subst e
  rw [hx] at hv;cases hv
  have hj:j<L.length:=(List.getElem?_eq_some_iff.1 hx).1
  obtain ⟨y,hy⟩:∃ y,L[j-1]? = some y:=⟨L[j-1],List.getElem?_eq_getElem (by omega)⟩
  have h1:=hl y (by omega) hy
  by_cases e2:i=j-1
  ·subst e2;rw [hu] at hy;cases hy;exact h1
  ·exact sF (h i (j-1) u y (by omega) (by omega) hu hy) h1
 ·exact h i j u v hij (by omega) hu hv
theorem qN.take {L:List aF}{n m:Nat}(h:qN L n)(hm:m≤n)(hL:m≤L.length):qN (L.take m) (L.take m).length:=by
 intro i j x y hij hj hx hy
 rw [List.length_take,Nat.min_eq_left hL] at hj
 rw [List.getElem?_take,if_pos (by omega)] at hx hy
 exact h i j x y hij (by omega) hx hy
def vF (L:List aF)(a:ay×Int):Int:=match L.findIdx? (fun x=>decide (nk x=a)) with
 | some i=>(i:Int)
 | none=>-1
theorem O6 {L:List aF}{a:ay×Int}{k:Nat}{x:aF}(h:∀ i y,i<k→L[i]? = some y→nk y≠a)(hx:L[k]? = some x)(hk:nk x=a):vF L a=(k:Int):=by
 have hkl:=(List.getElem?_eq_some_iff.1 hx).1
 have:L.findIdx? (fun x=>decide (nk x=a))=some k:=by
  rw [List.findIdx?_eq_some_iff_getElem]
  refine ⟨hkl,?_,fun j hj=>?_⟩
  ·have:=(List.getElem?_eq_some_iff.1 hx).2
   rw [this];simpa using hk
  ·have h1:=h j _ hj (List.getElem?_eq_getElem (iF hj hkl))
   simpa using h1
 unfold vF
 rw [this]
theorem IK {L:List aF}{a:ay×Int}(h:∀ i y,i<L.length→L[i]? = some y→nk y≠a):vF L a=-1:=by
 have:L.findIdx? (fun x=>decide (nk x=a))=none:=by
  rw [List.findIdx?_eq_none_iff]
  intro x hx
  obtain ⟨i,hi,rfl⟩:=List.mem_iff_getElem.1 hx
  have:=h i _ hi (List.getElem?_eq_getElem hi)
  simpa using this
 unfold vF
 rw [this]
def AV (y x:aF):Prop:=(Ey y=Ey x∧JI x=JI y+1)∨(jY (Ey y) (Ey x)∧JI x=1)
def okT (L:List aF)(i:Nat)(x:aF):Prop:=bZ x∧(i=0→JI x=1)∧(∀ y,0<i→L[i-1]? = some y→AV y x)∧(U6 x≠0→0≤vF (L.take i) (abL x,U6 x))
def Ar (L:List aF)(k:Nat):Prop:=∀ i x,i<k→L[i]? = some x→okT L i x
def pQ (L:List aF):Prop:=L.length≤96∧∀ i x,L[i]? = some x→okT L i x
open Classical in
noncomputable def oH (L:List aF):Bool:=decide (pQ L)
open Classical in
theorem jo {L:List aF}:oH L=true↔pQ L:=by unfold oH;simp
theorem BG {L:List aF}:Ar L 0:=fun i x h=>absurd h (gZ _)
theorem jq {L:List aF}{k:Nat}{x:aF}(h:Ar L k)(hx:L[k]? = some x)(hk:okT L k x):Ar L (k+1):=fun i y hi hy=>by
 rcases Nat.lt_succ_iff_lt_or_eq.1 hi with h1 | h1
 ·exact h i y h1 hy
 ·subst h1;rw [hx] at hy;cases hy;exact hk
theorem BD {L:List aF}(h1:L.length≤96)(h:Ar L L.length):pQ L:=⟨h1,fun i x hx=>h i x (List.getElem?_eq_some_iff.1 hx).1 hx⟩
theorem iC {L:List aF}{k:Nat}{x:aF}(hx:L[k]? = some x)(h:¬okT L k x):¬pQ L:=fun hr=>h (hr.2 k x hx)
theorem V5 {y x:aF}(h:AV y x):FT (nk y) (nk x):=by
 rcases h with ⟨h1,h2⟩ | ⟨h1,h2⟩
 ·exact .inr ⟨h1,by show JI y<JI x;omega⟩
 ·exact .inl h1
theorem DL {L:List aF}:∀ {k:Nat},Ar L k→k≤L.length→qN L k
 | 0,_,_=>qN.zero
 | k+1,h,hk=>by
  obtain ⟨x,hx⟩:∃ x,L[k]? = some x:=⟨L[k],List.getElem?_eq_getElem (by omega)⟩
  exact (DL (fun i x hi hx=>h i x (by omega) hx) (by omega)).step hx fun y h0 hy=>V5 ((h k x (by omega) hx).2.2.1 y h0 hy)
end
section
open Go.RowKit bN bO
theorem ZN {W:World}{lo:Nat}{T:TypeId}{size n:Nat}{v:Value}{c:Nat→Value}(h:jd W lo T size v n c):∀ a cap,v=.slice a n cap→cap≤maxLen:=by
 rintro a cap rfl
 rcases h.2 with ⟨h1,h2⟩ | ⟨g,cap',cur,hv,_,_,_,hm,_⟩
 ·cases h1
  exact dV _
 ·cases hv
  exact hm
theorem VQ {W:World}{lo:Nat}{T:TypeId}{v:Value}{L:List Int}{c:Nat→Value}(h:jd W lo T 1 v L.length c)(hc:∀ j x,L[j]? = some x→c j=.int .i64 x) :
 ∃ a cap,v=.slice a L.length cap∧bH I W (Rg lo W.heap.size) L a cap:=by
 obtain ⟨a,cap,rfl⟩:=h.isSlice
 have hm:=ZN h a cap rfl
 by_cases hn:0<L.length
 ·obtain ⟨g,cap',hv,hlo,hg,hl,hcs,hf⟩:=h.form hn
  cases hv
  refine ⟨_,_,rfl,hl,hm,fun _=>⟨g,fun _ _=>False,rfl,⟨hlo,hg⟩,hf,fun i k h=>h.elim,fun i j k _ h=>h.elim,fun i x hx=>⟨[.int .i64 x],fun j d hd=>?_,rfl⟩⟩⟩
  have hj:j=0:=by have:=(List.getElem?_eq_some_iff.1 hd).1;simp at this;omega
  subst hj
  simp at hd
  subst hd
  have:=hcs i (by have:=(List.getElem?_eq_some_iff.1 hx).1;omega)
  rw [hc i x hx] at this
  simpa [show I.size=1 from rfl] using this
 ·have hn0:L.length=0:=by omega
  refine ⟨a,cap,rfl,?_,hm,fun h=>absurd h hn⟩
  rcases h.2 with ⟨h1,h2⟩ | ⟨g,cap',cur,hv,_,_,hl,_⟩
  ·omega
  ·omega
theorem Wz:∃ i,Tryz.prog.info? 2=some i∧i.zero=some (.int .i64 0)∧i.size=1∧i.bytes=8:=by
 have h:(Tryz.prog.info? 2).map (fun i=>(i.zero,i.size,i.bytes))=some (some (.int .i64 0),1,8):=by kernel_rfl
 cases hx:Tryz.prog.info? 2 with
 | none=>rw [hx] at h;simp at h
 | some i=>rw [hx] at h;simp at h;exact ⟨i,rfl,h.1,h.2.1,h.2.2⟩
theorem IQ {L:List Int}{a:Option Addr}{cap:Nat}{W:World}{ty:TypeId}(hn:L.length≤1048576)(h:aJ I W W.heap.size L a cap) :
 ∃ a' c' W',(Builtin.append_ #[70,70] ty #[.slice (some ⟨W.heap.size,0,none⟩) 0 0,.slice a L.length cap]).run Tryz.prog (W.alloc (.cells #[] 2))=.ok (.slice a' L.length c') W'∧bH I W' (Rg W.heap.size W'.heap.size) L a' c'∧Below W.heap.size W W':=by
 obtain ⟨i,hi,hz,hs,hb⟩:=Wz
 have hbel:Below W.heap.size W (W.alloc (.cells #[] 2)):=(aW _ _).alloc (bK _) _
 have hown:=jd.adA W W.heap.size 2 1 (fun _=>.int .i64 0) (bK _)
 by_cases h0:L.length=0
 ·have hL:L = []:=List.eq_nil_of_length_eq_zero h0
  subst hL
  exact ⟨_,_,_,E9 Tryz.underlying70 hi _ a 0 cap,⟨bK _,dV _,fun h=>absurd h (jH _)⟩,hbel⟩
 ·obtain ⟨g,o,rfl,hg,hel⟩:=h.2.2 (by omega)
  have hcell:∀ j,j<L.length*1→W.cell? ⟨g,o+j,none⟩=some (.int .i64 (L.getD j 0)):=fun j hj=>by
   obtain ⟨us,hu,hr⟩:=hel j (L[j]'(by omega)) (List.getElem?_eq_getElem (by omega))
   obtain rfl:us = [_]:=hr
   have:=hu 0 _ rfl
   rw [List.getD_eq_getElem?_getD,List.getElem?_eq_getElem (by omega)]
   simpa [show I.size=1 from rfl] using this
  obtain ⟨v',W',hr,hro,hb2,_,_⟩:=ZJ (P:=Tryz.prog) (W.alloc (.cells #[] 2)) W.heap.size 70 ty 2 i _ 1 8 Tryz.underlying70 hi hz hs hb rfl (by omega) _ 0 _ hown g o L.length cap (fun j=>.int .i64 (L.getD j 0))
   (fun j hj=>(hbel.cell (p:=⟨g,o+j,none⟩) hg).trans (hcell j hj)) (fun j hj=>rfl) (by unfold maxLen;omega) (by omega) (by simp)
  rw [Nat.zero_add] at hro
  obtain ⟨a',c',rfl,hos⟩:=VQ hro (fun j x hx=>by
   have hj:=(List.getElem?_eq_some_iff.1 hx).1
   simp [List.getD_eq_getElem?_getD,hx])
  exact ⟨a',c',W',hr,hos,hbel.trans hb2⟩
theorem Mi {L:List Int}{a:Option Addr}{cap:Nat}{W:World}(hn:L.length≤1048576)(h:aJ I W W.heap.size L a cap) :
 Calls Tryz.prog 250 #[.slice a L.length cap] W (jU I L W):=by
 have qT:∀ (w:World) (a:Option Addr) (n c n' c':Nat),(binOp .eql 70 (.slice a n c) (.slice none n' c')).run Tryz.prog w=.ok (.bool a.isNone) w:=fun w a n c n' c'=>Lib.run_eql_slice_nil w _ _ a n c n' c' Tryz.underlying70
 cases a with
 | none=>
  have h0:L.length=0:=by
   by_cases hp:0<L.length
   ·obtain ⟨g,o,he,_⟩:=h.2.2 hp
    cases he
   ·omega
  have hL:L = []:=List.eq_nil_of_length_eq_zero h0
  subst hL
  go_enter Tryz.func250,Tryz.ntmps250
  go_wp2
  go_ret
  exact ⟨none,0,rfl,⟨bK _,dV _,fun h=>absurd h (jH _)⟩,aW _ _⟩
 | some x=>
  obtain ⟨a',c',w5,hr,hos,hb⟩:=IQ (ty:=70) hn h
  have HR:=ak hr
  have HO:=ak hos
  have HB:=ak hb
  clear hr hos hb h
  go_enter Tryz.func250,Tryz.ntmps250
  go_wp2_with (at_builtin;refine dZ rfl (.tmp 5) (.tmp 6) 70 rfl rfl rfl HR.out ?_)
  go_ret
  exact ⟨a',c',rfl,HO.out,HB.out⟩
theorem eB {w:World}{g i:Nat}{v:Value}(h:w.cell? ⟨g,i,none⟩=some v):w.setCell ⟨g,i,none⟩ v=w:=by
 have e:(w.setCell ⟨g,i,none⟩ v).heap=w.heap:=by
  unfold World.setCell
  apply Array.ext_getElem?
  intro j
  show (Array.modify _ _ _)[j]? = _
  rw [Array.getElem?_modify]
  by_cases hj:g=j
  ·subst hj
   rw [if_pos rfl]
   unfold World.cell? at h
   cases ho:w.heap[g]? with
   | none=>rfl
   | some o=>
    rw [ho] at h
    cases o with
    | cells c t f=>
     simp at h
     simp only [Option.map_some,Option.isSome_none,Bool.false_eq_true,if_false]
     congr 2
     apply Array.ext_getElem?
     intro q
     rw [Array.getElem?_setIfInBounds]
     by_cases hq:i=q
     ·subst hq
      rw [if_pos rfl]
      have:=(Array.getElem?_eq_some_iff.1 h).1
      rw [if_pos this,h]
     ·rw [if_neg hq]
    | _=>simp at h
  ·rw [if_neg hj]
 have e2:w.setCell ⟨g,i,none⟩ v={ w with heap:=(w.setCell ⟨g,i,none⟩ v).heap }:=rfl
 rw [e2,e]
end
section
open Go.RowKit bN bO bJ bQ eO
theorem Mc {x0 x1 x2:Int}{x3:ByteArray}{x4 x5 x6 x7 x8 x9 x10 aS aV:Int}{L:List Int}{a:Option Addr}{c:Nat}{W:World}(fH:x3.size≤maxLen)(hn:L.length≤1048576)(h:aJ I W W.heap.size L a c) :
 Calls Tryz.prog 69 #[.agg #[.int .i64 x0,.int .i64 x1,.int .i64 x2,.string x3,.int .i64 x4,.int .i64 x5,.int .i64 x6,.int .i64 x7,.int .i64 x8,.int .i64 x9,.int .i64 x10,.int .i64 aS,.int .i64 aV,.slice a L.length c]] W (kT aI ((x0,x1),x2,x3,x4,x5,x6,(x7,x8),x9,x10,aS,aV,L) W):=by
 have MU:=ak fH
 have hB0:Below W.heap.size W ((W.alloc (.cells #[.int .i64 x0,.int .i64 x1,.int .i64 x2,.string x3,.int .i64 x4,.int .i64 x5,.int .i64 x6,.int .i64 x7,.int .i64 x8,.int .i64 x9,.int .i64 x10,.int .i64 aS,.int .i64 aV,.slice a L.length c] 72)).alloc (.cells #[.int .i64 0,.int .i64 0,.int .i64 0,.string ⟨#[]⟩,.int .i64 0,.int .i64 0,.int .i64 0,.int .i64 0,.int .i64 0,.int .i64 0,.int .i64 0,.int .i64 0,.int .i64 0,.slice none 0 0] 72)):=((aW _ _).alloc (bK _) _).alloc (by simp) _
 obtain ⟨a',c',w5,hr,hos,hb⟩:=IQ (ty:=70) hn ((h.below cK hB0).more cK hB0.size)
 have hP:=(aO.new W 72 #[.int .i64 x0,.int .i64 x1,.int .i64 x2,.string x3,.int .i64 x4,.int .i64 x5,.int .i64 x6,.int .i64 x7,.int .i64 x8,.int .i64 x9,.int .i64 x10,.int .i64 aS,.int .i64 aV,.slice a L.length c]).alloc (.cells #[.int .i64 0,.int .i64 0,.int .i64 0,.string ⟨#[]⟩,.int .i64 0,.int .i64 0,.int .i64 0,.int .i64 0,.int .i64 0,.int .i64 0,.int .i64 0,.int .i64 0,.int .i64 0,.slice none 0 0] 72)
 have hR:=aO.new (W.alloc (.cells #[.int .i64 x0,.int .i64 x1,.int .i64 x2,.string x3,.int .i64 x4,.int .i64 x5,.int .i64 x6,.int .i64 x7,.int .i64 x8,.int .i64 x9,.int .i64 x10,.int .i64 aS,.int .i64 aV,.slice a L.length c] 72)) 72 #[.int .i64 0,.int .i64 0,.int .i64 0,.string ⟨#[]⟩,.int .i64 0,.int .i64 0,.int .i64 0,.int .i64 0,.int .i64 0,.int .i64 0,.int .i64 0,.int .i64 0,.int .i64 0,.slice none 0 0]
 have hP5:=ak (hP.call hb)
 have hR5:=ak (hR.call hb)
 have lX:=ak (hB0.trans (hb.mono hB0.size))
 have hsz5:=hb.size
 simp only [World.size_alloc] at hr
 have HR:=ak hr
 have HO:=ak hos
 simp only [World.size_alloc] at hsz5 hP hR
 have hgo:W.heap.size+2≤w5.heap.size:=hsz5
 have p0:=hP.at_ 0 rfl
 have p1:=hP.at_ 1 rfl
 have p2:=hP.at_ 2 rfl
 have p3:=hP.at_ 3 rfl
 have p4:=hP.at_ 4 rfl
 have p5:=hP.at_ 5 rfl
 have p6:=hP.at_ 6 rfl
 have p7:=hP.at_ 7 rfl
 have p8:=hP.at_ 8 rfl
 have p9:=hP.at_ 9 rfl
 have Si:=hP.at_ 10 rfl
 have O8:=hP.at_ 11 rfl
 have Sd:=hP.at_ 12 rfl
 have JX:=hP.at_ 13 rfl
 clear hP hR hB0 hr hos hb h
 have hRx:=hR5.out
 simp only [World.size_alloc] at hRx
 have HR5:=ak hRx
 obtain ⟨q0,q1,q2,q3,q4,q5,q6,q7,q8,q9,Mx,Mw,Mv,FR⟩:=hP5.out.fF rfl
 obtain ⟨f0,f1,f2,f3,f4,f5,f6,f7,f8,f9,f10,f11,f12,f13⟩:=hP5.out.qQ
 obtain ⟨r0,r1,r2,r3,r4,r5,r6,r7,r8,r9,r10,r11,r12,r13⟩:=HR5.out.fF rfl
 obtain ⟨g0,g1,g2,g3,g4,g5,g6,g7,g8,g9,g10,g11,g12,g13⟩:=HR5.out.qQ
 clear hRx hR5 fH
 go_enter Tryz.func69,Tryz.ntmps69
 go_wp2_with (at_builtin;refine dZ rfl (.tmp 3) (.tmp 5) 70 rfl rfl rfl HR.out ?_)
 refine qC (v:=.agg #[.int .i64 x0,.int .i64 x1,.int .i64 x2,.string x3,.int .i64 x4,.int .i64 x5,.int .i64 x6,.int .i64 x7,.int .i64 x8,.int .i64 x9,.int .i64 x10,.int .i64 aS,.int .i64 aV,.slice a' L.length c']) (by simp [results,Tryz.results69,go_sem, *]) rfl ⟨[.int .i64 x0,.int .i64 x1,.int .i64 x2,.string x3,.int .i64 x4,.int .i64 x5,.int .i64 x6,.int .i64 x7,.int .i64 x8,.int .i64 x9,.int .i64 x10,.int .i64 aS,.int .i64 aV,.slice a' L.length c'],rfl,?_,(((((((((((((((lX.out.setCell (p:=⟨W.heap.size,13,none⟩) (by show W.heap.size≤W.heap.size;omega) (.slice a' L.length c')).setCell (p:=⟨W.heap.size+1,0,none⟩) (by show W.heap.size≤W.heap.size+1;omega) (.int .i64 x0)).setCell (p:=⟨W.heap.size+1,1,none⟩) (by show W.heap.size≤W.heap.size+1;omega) (.int .i64 x1)).setCell (p:=⟨W.heap.size+1,2,none⟩) (by show W.heap.size≤W.heap.size+1;omega) (.int .i64 x2)).setCell (p:=⟨W.heap.size+1,3,none⟩) (by show W.heap.size≤W.heap.size+1;omega) (.string x3)).setCell (p:=⟨W.heap.size+1,4,none⟩) (by show W.heap.size≤W.heap.size+1;omega) (.int .i64 x4)).setCell (p:=⟨W.heap.size+1,5,none⟩) (by show W.heap.size≤W.heap.size+1;omega) (.int .i64 x5)).setCell (p:=⟨W.heap.size+1,6,none⟩) (by show W.heap.size≤W.heap.size+1;omega) (.int .i64 x6)).setCell (p:=⟨W.heap.size+1,7,none⟩) (by show W.heap.size≤W.heap.size+1;omega) (.int .i64 x7)).setCell (p:=⟨W.heap.size+1,8,none⟩) (by show W.heap.size≤W.heap.size+1;omega) (.int .i64 x8)).setCell (p:=⟨W.heap.size+1,9,none⟩) (by show W.heap.size≤W.heap.size+1;omega) (.int .i64 x9)).setCell (p:=⟨W.heap.size+1,10,none⟩) (by show W.heap.size≤W.heap.size+1;omega) (.int .i64 x10)).setCell (p:=⟨W.heap.size+1,11,none⟩) (by show W.heap.size≤W.heap.size+1;omega) (.int .i64 aS)).setCell (p:=⟨W.heap.size+1,12,none⟩) (by show W.heap.size≤W.heap.size+1;omega) (.int .i64 aV)).setCell (p:=⟨W.heap.size+1,13,none⟩) (by show W.heap.size≤W.heap.size+1;omega) (.slice a' L.length c'))⟩
 have hoff:=((((((((((((((((Off.refl (fun x=>x<W.heap.size+2) w5).setCell (p:=⟨W.heap.size,13,none⟩) (by show W.heap.size<W.heap.size+2;omega) (.slice a' L.length c')).setCell (p:=⟨W.heap.size+1,0,none⟩) (by show W.heap.size+1<W.heap.size+2;omega) (.int .i64 x0)).setCell (p:=⟨W.heap.size+1,1,none⟩) (by show W.heap.size+1<W.heap.size+2;omega) (.int .i64 x1)).setCell (p:=⟨W.heap.size+1,2,none⟩) (by show W.heap.size+1<W.heap.size+2;omega) (.int .i64 x2)).setCell (p:=⟨W.heap.size+1,3,none⟩) (by show W.heap.size+1<W.heap.size+2;omega) (.string x3)).setCell (p:=⟨W.heap.size+1,4,none⟩) (by show W.heap.size+1<W.heap.size+2;omega) (.int .i64 x4)).setCell (p:=⟨W.heap.size+1,5,none⟩) (by show W.heap.size+1<W.heap.size+2;omega) (.int .i64 x5)).setCell (p:=⟨W.heap.size+1,6,none⟩) (by show W.heap.size+1<W.heap.size+2;omega) (.int .i64 x6)).setCell (p:=⟨W.heap.size+1,7,none⟩) (by show W.heap.size+1<W.heap.size+2;omega) (.int .i64 x7)).setCell (p:=⟨W.heap.size+1,8,none⟩) (by show W.heap.size+1<W.heap.size+2;omega) (.int .i64 x8)).setCell (p:=⟨W.heap.size+1,9,none⟩) (by show W.heap.size+1<W.heap.size+2;omega) (.int .i64 x9)).setCell (p:=⟨W.heap.size+1,10,none⟩) (by show W.heap.size+1<W.heap.size+2;omega) (.int .i64 x10)).setCell (p:=⟨W.heap.size+1,11,none⟩) (by show W.heap.size+1<W.heap.size+2;omega) (.int .i64 aS)).setCell (p:=⟨W.heap.size+1,12,none⟩) (by show W.heap.size+1<W.heap.size+2;omega) (.int .i64 aV)).setCell (p:=⟨W.heap.size+1,13,none⟩) (by show W.heap.size+1<W.heap.size+2;omega) (.slice a' L.length c'))
 have hsz:=hoff.size
 have hos:=HO.out
 simp only [World.size_alloc] at hos
 exact lQ (fun k hk=>⟨by have:=hk.1;omega,by have:=hk.2;omega⟩) (hos.keep cK (fun k hk=>hoff.block k hk.2 (by have:=hk.1;omega))) MU.out
theorem Md {x0 x1 x2:Int}{x3:ByteArray}{x4 x5 x6 x7 x8 x9 x10 aS aV:Int}{L:List Int}{a:Option Addr}{c:Nat}{W:World}(fH:x3.size≤1048576)(hn:L.length≤1048576)(h:aJ I W W.heap.size L a c) :
 Calls Tryz.prog 211 #[.agg #[.int .i64 x0,.int .i64 x1,.int .i64 x2,.string x3,.int .i64 x4,.int .i64 x5,.int .i64 x6,.int .i64 x7,.int .i64 x8,.int .i64 x9,.int .i64 x10,.int .i64 aS,.int .i64 aV,.slice a L.length c]] W (kT aI ((x0,x1),x2,x3,x4,x5,x6,(x7,x8),x9,x10,aS,aV,L) W):=by
 have MU:=ak (show x3.size≤maxLen from by unfold maxLen;omega)
 obtain ⟨w0,hw0⟩:∃ w,w=(W.alloc (.cells #[.int .i64 x0,.int .i64 x1,.int .i64 x2,.string x3,.int .i64 x4,.int .i64 x5,.int .i64 x6,.int .i64 x7,.int .i64 x8,.int .i64 x9,.int .i64 x10,.int .i64 aS,.int .i64 aV,.slice a L.length c] 72)).alloc (.cells #[.int .i64 0,.int .i64 0,.int .i64 0,.string ⟨#[]⟩,.int .i64 0,.int .i64 0,.int .i64 0,.int .i64 0,.int .i64 0,.int .i64 0,.int .i64 0,.int .i64 0,.int .i64 0,.slice none 0 0] 72):=⟨_,rfl⟩
 have hB0:Below W.heap.size W w0:=by rw [hw0];exact ((aW _ _).alloc (bK _) _).alloc (by simp) _
 have gY:=ak (show aO w0 W.heap.size 72 #[.int .i64 x0,.int .i64 x1,.int .i64 x2,.string x3,.int .i64 x4,.int .i64 x5,.int .i64 x6,.int .i64 x7,.int .i64 x8,.int .i64 x9,.int .i64 x10,.int .i64 aS,.int .i64 aV,.slice a L.length c] from by rw [hw0];exact (aO.new W 72 #[.int .i64 x0,.int .i64 x1,.int .i64 x2,.string x3,.int .i64 x4,.int .i64 x5,.int .i64 x6,.int .i64 x7,.int .i64 x8,.int .i64 x9,.int .i64 x10,.int .i64 aS,.int .i64 aV,.slice a L.length c]).alloc (.cells #[.int .i64 0,.int .i64 0,.int .i64 0,.string ⟨#[]⟩,.int .i64 0,.int .i64 0,.int .i64 0,.int .i64 0,.int .i64 0,.int .i64 0,.int .i64 0,.int .i64 0,.int .i64 0,.slice none 0 0] 72))
 have Ab:=ak (show aO w0 (W.heap.size+1) 72 #[.int .i64 0,.int .i64 0,.int .i64 0,.string ⟨#[]⟩,.int .i64 0,.int .i64 0,.int .i64 0,.int .i64 0,.int .i64 0,.int .i64 0,.int .i64 0,.int .i64 0,.int .i64 0,.slice none 0 0] from by
  have h9:=aO.new (W.alloc (.cells #[.int .i64 x0,.int .i64 x1,.int .i64 x2,.string x3,.int .i64 x4,.int .i64 x5,.int .i64 x6,.int .i64 x7,.int .i64 x8,.int .i64 x9,.int .i64 x10,.int .i64 aS,.int .i64 aV,.slice a L.length c] 72)) 72 #[.int .i64 0,.int .i64 0,.int .i64 0,.string ⟨#[]⟩,.int .i64 0,.int .i64 0,.int .i64 0,.int .i64 0,.int .i64 0,.int .i64 0,.int .i64 0,.int .i64 0,.int .i64 0,.slice none 0 0]
  simp only [World.size_alloc] at h9
  rw [hw0];exact h9)
 have HH:=ak ((h.below cK hB0).more cK hB0.size)
 have HB0:=ak hB0
 have HN:=ak hn
 clear h hB0
 go_enter Tryz.func211,Tryz.ntmps211
 go_upto_region 1 with fail
 rw [←hw0]
 clear hw0
 obtain ⟨q0,q1,q2,q3,q4,q5,q6,q7,q8,q9,Mx,Mw,Mv,FR⟩:=gY.out.fF rfl
 go_wp2_with fail
 refine (KH.yD x3 _ fH).mono ?_
 rintro e w1 ⟨rfl,hb⟩
 have cZ:=ak (gY.out.call hb)
 have HR1:=ak (Ab.out.call hb)
 have HB1:=ak (HB0.out.trans (hb.mono HB0.out.size))
 have HH1:=ak ((HH.out.below cK hb).more cK hb.size)
 have HS:=ak (show w1.setCell ⟨W.heap.size,3,none⟩ (.string x3)=w1 from eB (cZ.out.at_ 3 rfl))
 clear hb q0 q1 q2 q3 q4 q5 q6 q7 q8 q9 Mx Mw Mv FR
 obtain ⟨q0,q1,q2,q3,q4,q5,q6,q7,q8,q9,Mx,Mw,Mv,FR⟩:=cZ.out.fF rfl
 obtain ⟨f0,f1,f2,f3,f4,f5,f6,f7,f8,f9,f10,f11,f12,f13⟩:=cZ.out.qQ
 go_wp2_with fail
 rw [HS.out]
 refine (Mi HN.out HH1.out).mono ?_
 intro e w5 h
 obtain ⟨a',c',rfl,hos,hb⟩:=bL h
 have xA:=ak (cZ.out.call hb)
 have HR5:=ak (HR1.out.call hb)
 have lX:=ak (HB1.out.trans (hb.mono HB1.out.size))
 have HO:=ak hos
 have hgo:W.heap.size+2≤w1.heap.size:=by have:=HR1.out.lt;omega
 have hgo5:W.heap.size+2≤w5.heap.size:=by have:=HR5.out.lt;omega
 clear h hb hos HS q0 f0 q1 f1 q2 f2 q3 f3 q4 f4 q5 f5 q6 f6 q7 f7 q8 f8 q9 f9 Mx f10 Mw f11 Mv f12 FR f13
 obtain ⟨q0,q1,q2,q3,q4,q5,q6,q7,q8,q9,Mx,Mw,Mv,FR⟩:=xA.out.fF rfl
 obtain ⟨f0,f1,f2,f3,f4,f5,f6,f7,f8,f9,f10,f11,f12,f13⟩:=xA.out.qQ
 obtain ⟨r0,r1,r2,r3,r4,r5,r6,r7,r8,r9,r10,r11,r12,r13⟩:=HR5.out.fF rfl
 obtain ⟨g0,g1,g2,g3,g4,g5,g6,g7,g8,g9,g10,g11,g12,g13⟩:=HR5.out.qQ
 go_wp2
 refine qC (v:=.agg #[.int .i64 x0,.int .i64 x1,.int .i64 x2,.string x3,.int .i64 x4,.int .i64 x5,.int .i64 x6,.int .i64 x7,.int .i64 x8,.int .i64 x9,.int .i64 x10,.int .i64 aS,.int .i64 aV,.slice a' L.length c']) (by simp [results,Tryz.results211,go_sem, *]) rfl ⟨[.int .i64 x0,.int .i64 x1,.int .i64 x2,.string x3,.int .i64 x4,.int .i64 x5,.int .i64 x6,.int .i64 x7,.int .i64 x8,.int .i64 x9,.int .i64 x10,.int .i64 aS,.int .i64 aV,.slice a' L.length c'],rfl,?_,(((((((((((((((lX.out.setCell (p:=⟨W.heap.size,13,none⟩) (by show W.heap.size≤W.heap.size;omega) (.slice a' L.length c')).setCell (p:=⟨W.heap.size+1,0,none⟩) (by show W.heap.size≤W.heap.size+1;omega) (.int .i64 x0)).setCell (p:=⟨W.heap.size+1,1,none⟩) (by show W.heap.size≤W.heap.size+1;omega) (.int .i64 x1)).setCell (p:=⟨W.heap.size+1,2,none⟩) (by show W.heap.size≤W.heap.size+1;omega) (.int .i64 x2)).setCell (p:=⟨W.heap.size+1,3,none⟩) (by show W.heap.size≤W.heap.size+1;omega) (.string x3)).setCell (p:=⟨W.heap.size+1,4,none⟩) (by show W.heap.size≤W.heap.size+1;omega) (.int .i64 x4)).setCell (p:=⟨W.heap.size+1,5,none⟩) (by show W.heap.size≤W.heap.size+1;omega) (.int .i64 x5)).setCell (p:=⟨W.heap.size+1,6,none⟩) (by show W.heap.size≤W.heap.size+1;omega) (.int .i64 x6)).setCell (p:=⟨W.heap.size+1,7,none⟩) (by show W.heap.size≤W.heap.size+1;omega) (.int .i64 x7)).setCell (p:=⟨W.heap.size+1,8,none⟩) (by show W.heap.size≤W.heap.size+1;omega) (.int .i64 x8)).setCell (p:=⟨W.heap.size+1,9,none⟩) (by show W.heap.size≤W.heap.size+1;omega) (.int .i64 x9)).setCell (p:=⟨W.heap.size+1,10,none⟩) (by show W.heap.size≤W.heap.size+1;omega) (.int .i64 x10)).setCell (p:=⟨W.heap.size+1,11,none⟩) (by show W.heap.size≤W.heap.size+1;omega) (.int .i64 aS)).setCell (p:=⟨W.heap.size+1,12,none⟩) (by show W.heap.size≤W.heap.size+1;omega) (.int .i64 aV)).setCell (p:=⟨W.heap.size+1,13,none⟩) (by show W.heap.size≤W.heap.size+1;omega) (.slice a' L.length c'))⟩
 have hoff:=((((((((((((((((Off.refl (fun x=>x<W.heap.size+2) w5).setCell (p:=⟨W.heap.size,13,none⟩) (by show W.heap.size<W.heap.size+2;omega) (.slice a' L.length c')).setCell (p:=⟨W.heap.size+1,0,none⟩) (by show W.heap.size+1<W.heap.size+2;omega) (.int .i64 x0)).setCell (p:=⟨W.heap.size+1,1,none⟩) (by show W.heap.size+1<W.heap.size+2;omega) (.int .i64 x1)).setCell (p:=⟨W.heap.size+1,2,none⟩) (by show W.heap.size+1<W.heap.size+2;omega) (.int .i64 x2)).setCell (p:=⟨W.heap.size+1,3,none⟩) (by show W.heap.size+1<W.heap.size+2;omega) (.string x3)).setCell (p:=⟨W.heap.size+1,4,none⟩) (by show W.heap.size+1<W.heap.size+2;omega) (.int .i64 x4)).setCell (p:=⟨W.heap.size+1,5,none⟩) (by show W.heap.size+1<W.heap.size+2;omega) (.int .i64 x5)).setCell (p:=⟨W.heap.size+1,6,none⟩) (by show W.heap.size+1<W.heap.size+2;omega) (.int .i64 x6)).setCell (p:=⟨W.heap.size+1,7,none⟩) (by show W.heap.size+1<W.heap.size+2;omega) (.int .i64 x7)).setCell (p:=⟨W.heap.size+1,8,none⟩) (by show W.heap.size+1<W.heap.size+2;omega) (.int .i64 x8)).setCell (p:=⟨W.heap.size+1,9,none⟩) (by show W.heap.size+1<W.heap.size+2;omega) (.int .i64 x9)).setCell (p:=⟨W.heap.size+1,10,none⟩) (by show W.heap.size+1<W.heap.size+2;omega) (.int .i64 x10)).setCell (p:=⟨W.heap.size+1,11,none⟩) (by show W.heap.size+1<W.heap.size+2;omega) (.int .i64 aS)).setCell (p:=⟨W.heap.size+1,12,none⟩) (by show W.heap.size+1<W.heap.size+2;omega) (.int .i64 aV)).setCell (p:=⟨W.heap.size+1,13,none⟩) (by show W.heap.size+1<W.heap.size+2;omega) (.slice a' L.length c'))
 have hsz:=hoff.size
 have hos:=HO.out
 exact lQ (fun k hk=>⟨by have:=hk.1;omega,by have:=hk.2;omega⟩) (hos.keep cK (fun k hk=>hoff.block k hk.2 (by have:=hk.1;omega))) MU.out
theorem xW (n lo hi:Int){b:Bool}(hb:dD n lo hi=b)(w:World) :
 Calls Tryz.prog 157 #[.int .i64 n,.int .i64 lo,.int .i64 hi] w fun e w'=>e=.returned (.bool b)∧w=w':=by
 subst hb
 exact pW n lo hi w
theorem oO (n:Int){b:Bool}(hb:dD n 0 1000000=b)(w:World) :
 Calls Tryz.prog 176 #[.int .i64 n] w fun e w'=>e=.returned (.bool b)∧w=w':=by
 subst hb
 exact oQ n w
theorem OL (n:Int){b:Bool}(hb:dD n 0 999900=b)(w:World) :
 Calls Tryz.prog 97 #[.int .i64 n] w fun e w'=>e=.returned (.bool b)∧w=w':=by
 subst hb
 go_enter Tryz.func97,Tryz.ntmps97
 go_wp2_with (go_at_call 157;refine (pW _ _ _ _).mono ?_;rintro e w' ⟨rfl,rfl⟩)
 go_ret
 exact ⟨rfl,rfl⟩
theorem DT {s:ByteArray}{w w':World}{e:Ending}(h:eO.Res (nM s) w e w'):e=.returned (.bool (j4 s))∧w=w':=by
 obtain ⟨b,rfl,hb,rfl⟩:=h
 have:b=j4 s:=by
  cases b <;> cases hn:j4 s
  ·rfl
  ·exact absurd (hb.2 (jS.1 hn)) (by decide)
  ·exact absurd (jS.2 (hb.1 rfl)) (by rw [hn];decide)
  ·rfl
 exact ⟨by rw [this],rfl⟩
theorem V6 {s:ByteArray}{b:Bool}(hs:s.size≤maxLen)(hb:j4 s=b)(w:World):Calls Tryz.prog 163 #[.string s] w fun e w'=>e=.returned (.bool b)∧w=w':=by
 subst hb
 exact (G8 s w hs).mono fun _ _ h=>DT h
theorem V7 {s:ByteArray}{b:Bool}(hs:s.size≤maxLen)(hb:j4 s=b)(w:World):Calls Tryz.prog 197 #[.string s] w fun e w'=>e=.returned (.bool b)∧w=w':=by
 subst hb
 exact (Im s w hs).mono fun _ _ h=>DT h
theorem Z4 (l s:Int){b:Bool}(hb:dH.rB l s=b)(w:World) :
 Calls Tryz.prog 162 #[.agg #[.int .i64 l,.int .i64 s]] w fun e w'=>e=.returned (.bool b)∧Below w.heap.size w w':=by
 subst hb
 exact (dH.iM l s w).mono fun _ _ ⟨h1,h2⟩=>⟨h1,by rw [←h2];exact (aW _ _).alloc (bK _) _⟩
theorem aal (l s m t:Int){b:Bool}(hb:dH.iV l s m t=b)(w:World) :
 Calls Tryz.prog 185 #[.agg #[.int .i64 l,.int .i64 s],.agg #[.int .i64 m,.int .i64 t]] w fun e w'=>e=.returned (.bool b)∧Below w.heap.size w w':=by
 subst hb
 exact dH.Mq l s m t w
theorem aam (l s m t:Int){b:Bool}(hb:dH.iV l s m t=b)(w:World) :
 Calls Tryz.prog 231 #[.agg #[.int .i64 l,.int .i64 s],.agg #[.int .i64 m,.int .i64 t]] w fun e w'=>e=.returned (.bool b)∧Below w.heap.size w w':=by
 subst hb
 exact dH.Ch l s m t w
theorem KL {x0 x1 x2:Int}{x3:ByteArray}{x4 x5 x6 x7 x8 x9 x10 aS aV:Int}{L:List Int}{a:Option Addr}{c:Nat}{W:World}(fH:x3.size≤maxLen)(h:aJ I W W.heap.size L a c):Calls Tryz.prog 123 #[.agg #[.int .i64 x0,.int .i64 x1,.int .i64 x2,.string x3,.int .i64 x4,.int .i64 x5,.int .i64 x6,.int .i64 x7,.int .i64 x8,.int .i64 x9,.int .i64 x10,.int .i64 aS,.int .i64 aV,.slice a L.length c]] W (jf (bZ ((x0,x1),x2,x3,x4,x5,x6,(x7,x8),x9,x10,aS,aV,L)) W):=by
 have hn:L.length≤9223372036854775807:=by have h1:=h.1;have h2:=h.2.1;unfold maxLen at h2;omega
 have H:=ak h
 clear h
 have MU:=ak fH
 unfold maxLen at fH
 obtain ⟨b0,h0⟩:∃ b,dH.rB x0 x1=b:=⟨_,rfl⟩
 have H0:=ak h0
 clear h0
 obtain ⟨b1,h1⟩:∃ b,dD x2 1 12=b:=⟨_,rfl⟩
 have H1:=ak h1
 clear h1
 obtain ⟨b2,h2⟩:∃ b,j4 x3=b:=⟨_,rfl⟩
 have H2:=ak h2
 clear h2
 obtain ⟨b3,h3⟩:∃ b,dD x4 1 6=b:=⟨_,rfl⟩
 have H3:=ak h3
 clear h3
 obtain ⟨b4,h4⟩:∃ b,dD x5 1 20=b:=⟨_,rfl⟩
 have H4:=ak h4
 clear h4
 obtain ⟨b5,h5⟩:∃ b,dD x6 0 9=b:=⟨_,rfl⟩
 have H5:=ak h5
 clear h5
 obtain ⟨b6,h6⟩:∃ b,dD x10 0 999900=b:=⟨_,rfl⟩
 have H6:=ak h6
 clear h6
 obtain ⟨b7,h7⟩:∃ b,dD aS 1 6=b:=⟨_,rfl⟩
 have H7:=ak h7
 clear h7
 obtain ⟨b8,h8⟩:∃ b,dD x9 1 12=b:=⟨_,rfl⟩
 have H8:=ak h8
 clear h8
 obtain ⟨b9,h9⟩:∃ b,dH.iV x7 x8 x0 x1=b:=⟨_,rfl⟩
 have yF:=ak h9
 clear h9
 obtain ⟨b10,h10⟩:∃ b,dD aV 0 1000000=b:=⟨_,rfl⟩
 have FP:=ak h10
 clear h10
 have HB0:=ak (show Below W.heap.size W (W.alloc (.cells #[.int .i64 x0,.int .i64 x1,.int .i64 x2,.string x3,.int .i64 x4,.int .i64 x5,.int .i64 x6,.int .i64 x7,.int .i64 x8,.int .i64 x9,.int .i64 x10,.int .i64 aS,.int .i64 aV,.slice a L.length c] 72)) from (aW _ _).alloc (bK _) _)
 have gY:=ak (aO.new W 72 #[.int .i64 x0,.int .i64 x1,.int .i64 x2,.string x3,.int .i64 x4,.int .i64 x5,.int .i64 x6,.int .i64 x7,.int .i64 x8,.int .i64 x9,.int .i64 x10,.int .i64 aS,.int .i64 aV,.slice a L.length c])
 have hz0:W.heap.size≤(W.alloc (.cells #[.int .i64 x0,.int .i64 x1,.int .i64 x2,.string x3,.int .i64 x4,.int .i64 x5,.int .i64 x6,.int .i64 x7,.int .i64 x8,.int .i64 x9,.int .i64 x10,.int .i64 aS,.int .i64 aV,.slice a L.length c] 72)).heap.size:=HB0.out.size
 go_enter Tryz.func123,Tryz.ntmps123
 go_wp2_with fail
 refine (Z4 x0 x1 H0.out _).mono ?_
 rintro e w1 ⟨rfl,hb⟩
 have cZ:=ak (gY.out.call hb)
 have HB1:=ak (HB0.out.trans (hb.mono hz0))
 have hz1:W.heap.size≤w1.heap.size:=HB1.out.size
 clear hb
 obtain ⟨p0,p1,p2,p3,p4,p5,p6,p7,p8,p9,Si,O8,Sd,JX⟩:=cZ.out.fF rfl
 clear gY HB0
 cases b0 with
 | false=>
  have HV:=ak (show ¬bZ ((x0,x1),x2,x3,x4,x5,x6,(x7,x8),x9,x10,aS,aV,L) from fun h=>by have h2:=h.1;rw [H0.out] at h2;cases h2)
  go_wp2
  go_ret
  exact aB HV.out HB1.out
 | true=>
  go_wp2_with fail
  refine (xW _ _ _ H1.out _).mono ?_
  rintro e w2 ⟨rfl,rfl⟩
  cases b1 with
  | false=>
   have HV:=ak (show ¬bZ ((x0,x1),x2,x3,x4,x5,x6,(x7,x8),x9,x10,aS,aV,L) from fun h=>by have h2:=h.2.1;rw [H1.out] at h2;cases h2)
   go_wp2
   go_ret
   exact aB HV.out HB1.out
  | true=>
   go_wp2_with fail
   refine (V6 MU.out H2.out _).mono ?_
   rintro e w2 ⟨rfl,rfl⟩
   cases b2 with
   | false=>
    have HV:=ak (show ¬bZ ((x0,x1),x2,x3,x4,x5,x6,(x7,x8),x9,x10,aS,aV,L) from fun h=>by have h2:=h.2.2.1;rw [H2.out] at h2;cases h2)
    go_wp2
    go_ret
    exact aB HV.out HB1.out
   | true=>
    go_wp2_with fail
    refine (xW _ _ _ H3.out _).mono ?_
    rintro e w2 ⟨rfl,rfl⟩
    cases b3 with
    | false=>
     have HV:=ak (show ¬bZ ((x0,x1),x2,x3,x4,x5,x6,(x7,x8),x9,x10,aS,aV,L) from fun h=>by have h2:=h.2.2.2.1;rw [H3.out] at h2;cases h2)
     go_wp2
     go_ret
     exact aB HV.out HB1.out
    | true=>
     go_wp2_with fail
     refine (xW _ _ _ H4.out _).mono ?_
     rintro e w2 ⟨rfl,rfl⟩
     cases b4 with
     | false=>
      have HV:=ak (show ¬bZ ((x0,x1),x2,x3,x4,x5,x6,(x7,x8),x9,x10,aS,aV,L) from fun h=>by have h2:=h.2.2.2.2.1;rw [H4.out] at h2;cases h2)
      go_wp2
      go_ret
      exact aB HV.out HB1.out
     | true=>
      go_wp2_with fail
      refine (xW _ _ _ H5.out _).mono ?_
      rintro e w2 ⟨rfl,rfl⟩
      cases b5 with
      | false=>
       have HV:=ak (show ¬bZ ((x0,x1),x2,x3,x4,x5,x6,(x7,x8),x9,x10,aS,aV,L) from fun h=>by have h2:=h.2.2.2.2.2.1;rw [H5.out] at h2;cases h2)
       go_wp2
       go_ret
       exact aB HV.out HB1.out
      | true=>
       go_wp2_with fail
       refine (OL _ H6.out _).mono ?_
       rintro e w2 ⟨rfl,rfl⟩
       cases b6 with
       | false=>
        have HV:=ak (show ¬bZ ((x0,x1),x2,x3,x4,x5,x6,(x7,x8),x9,x10,aS,aV,L) from fun h=>by have h2:=h.2.2.2.2.2.2.1;rw [H6.out] at h2;cases h2)
        go_wp2
        go_ret
        exact aB HV.out HB1.out
       | true=>
        go_wp2_with fail
        refine (xW _ _ _ H7.out _).mono ?_
        rintro e w2 ⟨rfl,rfl⟩
        cases b7 with
        | false=>
         have HV:=ak (show ¬bZ ((x0,x1),x2,x3,x4,x5,x6,(x7,x8),x9,x10,aS,aV,L) from fun h=>by have h2:=(Gg h).1;rw [H7.out] at h2;cases h2)
         go_wp2
         go_ret
         exact aB HV.out HB1.out
        | true=>
         by_cases h9:x9=0
         ·have h9':(x9==0)=true:=beq_iff_eq.2 h9
          have XJ:(x9 != 0)=false:=by simp [h9]
          obtain ⟨q,hq⟩:∃ q,decide (((x7,x8):Int×Int)=(0,0))=q:=⟨_,rfl⟩
          have hqq:=wI x7 x8 0 0 q hq
          have HQ:=ak hq
          have H9:=ak h9
          clear hq h9
          cases q with
          | false=>
           have HV:=ak (show ¬bZ ((x0,x1),x2,x3,x4,x5,x6,(x7,x8),x9,x10,aS,aV,L) from fun h=>by have h2:=(qG h).1.1 H9.out;exact of_decide_eq_false HQ.out (by rw [h2.1,h2.2]))
           go_wp2
           go_ret
           exact aB HV.out HB1.out
          | true=>
           have HD:=ak (show xQ x0 x1 x2 x7 x8 x9 from ⟨fun _=>by have h2:=of_decide_eq_true HQ.out;simpa using h2,fun h=>absurd H9.out h⟩)
           by_cases h2:aS=2
           ·have h2':(aS==2)=true:=beq_iff_eq.2 h2
            have HS:=ak (show Has aS L from Or.inl h2)
            go_wp2_with fail
            refine (oO _ FP.out _).mono ?_
            rintro e w9 ⟨rfl,rfl⟩
            cases b10 with
            | false=>
             have HV:=ak (show ¬bZ ((x0,x1),x2,x3,x4,x5,x6,(x7,x8),x9,x10,aS,aV,L) from fun h=>by have h2:=((kZ h).1 HS.out).1;rw [FP.out] at h2;cases h2)
             go_wp2
             go_ret
             exact aB HV.out HB1.out
            | true=>
             by_cases hl:(L.length:Int)=x4
             ·have hl':((L.length:Int)==x4)=true:=beq_iff_eq.2 hl
              have HL:=ak hl
              clear hl
              go_wp2_with fail
              refine (kE ((H.out.below cK HB1.out).more cK hz1)).mono ?_
              intro e w3 h
              obtain ⟨b,rfl,hb,hw⟩:=bq h
              have HB:=ak (HB1.out.trans (hw.mono hz1))
              have HV:=ak (show (b=true↔bZ ((x0,x1),x2,x3,x4,x5,x6,(x7,x8),x9,x10,aS,aV,L)) from hb.trans ⟨fun hN=>⟨H0.out,H1.out,H2.out,H3.out,H4.out,H5.out,H6.out,H7.out,HD.out,fun _=>⟨FP.out,HL.out,hN⟩,fun h=>absurd HS.out h⟩,fun h=>((kZ h).1 HS.out).2.2⟩)
              clear h hb hw
              go_wp2
              go_ret
              exact ⟨b,rfl,HV.out,HB.out⟩
             ·have hl':((L.length:Int)==x4)=false:=beq_eq_false_iff_ne.2 hl
              have HV:=ak (show ¬bZ ((x0,x1),x2,x3,x4,x5,x6,(x7,x8),x9,x10,aS,aV,L) from fun h=>hl ((kZ h).1 HS.out).2.1)
              go_wp2
              go_ret
              exact aB HV.out HB1.out
           ·have h2':(aS==2)=false:=beq_eq_false_iff_ne.2 h2
            by_cases h1:aS=1
            ·have h1':(aS==1)=true:=beq_iff_eq.2 h1
             by_cases hp:0<L.length
             ·have hp':decide ((0:Int)<(L.length:Int))=true:=eD (by omega)
              have HS:=ak (show Has aS L from Or.inr ⟨h1,hp⟩)
              go_wp2_with fail
              refine (oO _ FP.out _).mono ?_
              rintro e w9 ⟨rfl,rfl⟩
              cases b10 with
              | false=>
               have HV:=ak (show ¬bZ ((x0,x1),x2,x3,x4,x5,x6,(x7,x8),x9,x10,aS,aV,L) from fun h=>by have h2:=((kZ h).1 HS.out).1;rw [FP.out] at h2;cases h2)
               go_wp2
               go_ret
               exact aB HV.out HB1.out
              | true=>
               by_cases hl:(L.length:Int)=x4
               ·have hl':((L.length:Int)==x4)=true:=beq_iff_eq.2 hl
                have HL:=ak hl
                clear hl
                go_wp2_with fail
                refine (kE ((H.out.below cK HB1.out).more cK hz1)).mono ?_
                intro e w3 h
                obtain ⟨b,rfl,hb,hw⟩:=bq h
                have HB:=ak (HB1.out.trans (hw.mono hz1))
                have HV:=ak (show (b=true↔bZ ((x0,x1),x2,x3,x4,x5,x6,(x7,x8),x9,x10,aS,aV,L)) from hb.trans ⟨fun hN=>⟨H0.out,H1.out,H2.out,H3.out,H4.out,H5.out,H6.out,H7.out,HD.out,fun _=>⟨FP.out,HL.out,hN⟩,fun h=>absurd HS.out h⟩,fun h=>((kZ h).1 HS.out).2.2⟩)
                clear h hb hw
                go_wp2
                go_ret
                exact ⟨b,rfl,HV.out,HB.out⟩
               ·have hl':((L.length:Int)==x4)=false:=beq_eq_false_iff_ne.2 hl
                have HV:=ak (show ¬bZ ((x0,x1),x2,x3,x4,x5,x6,(x7,x8),x9,x10,aS,aV,L) from fun h=>hl ((kZ h).1 HS.out).2.1)
                go_wp2
                go_ret
                exact aB HV.out HB1.out
             ·have hp':decide ((0:Int)<(L.length:Int))=false:=dS (by omega)
              have HS:=ak (show ¬Has aS L from fun h=>h.elim h2 (fun h=>hp h.2))
              by_cases h7:aV=0
              ·have Sq:(aV==0)=true:=beq_iff_eq.2 h7
               have Sz:=ak h7
               clear h7
               obtain rfl:L = []:=List.eq_nil_of_length_eq_zero (by omega)
               clear hp hp' hn
               have HV:=ak (show bZ ((x0,x1),x2,x3,x4,x5,x6,(x7,x8),x9,x10,aS,aV,[]) from ⟨H0.out,H1.out,H2.out,H3.out,H4.out,H5.out,H6.out,H7.out,HD.out,fun h=>absurd h HS.out,fun _=>⟨Sz.out,rfl⟩⟩)
               go_wp2
               go_ret
               exact bM HV.out HB1.out
              ·have Sq:(aV==0)=false:=beq_eq_false_iff_ne.2 h7
               have HV:=ak (show ¬bZ ((x0,x1),x2,x3,x4,x5,x6,(x7,x8),x9,x10,aS,aV,L) from fun h=>h7 ((iX h) HS.out).1)
               go_wp2
               go_ret
               exact aB HV.out HB1.out
            ·have h1':(aS==1)=false:=beq_eq_false_iff_ne.2 h1
             have HS:=ak (show ¬Has aS L from fun h=>h.elim h2 (fun h=>h1 h.1))
             by_cases h7:aV=0
             ·have Sq:(aV==0)=true:=beq_iff_eq.2 h7
              have Sz:=ak h7
              clear h7
              by_cases hl:L.length=0
              ·have hl':((L.length:Int)==0)=true:=beq_iff_eq.2 (by omega)
               have HL:=ak hl
               clear hl
               have HV:=ak (show bZ ((x0,x1),x2,x3,x4,x5,x6,(x7,x8),x9,x10,aS,aV,L) from ⟨H0.out,H1.out,H2.out,H3.out,H4.out,H5.out,H6.out,H7.out,HD.out,fun h=>absurd h HS.out,fun _=>⟨Sz.out,HL.out⟩⟩)
               go_wp2
               go_ret
               exact bM HV.out HB1.out
              ·have hl':((L.length:Int)==0)=false:=beq_eq_false_iff_ne.2 (by omega)
               have HV:=ak (show ¬bZ ((x0,x1),x2,x3,x4,x5,x6,(x7,x8),x9,x10,aS,aV,L) from fun h=>hl ((iX h) HS.out).2)
               go_wp2
               go_ret
               exact aB HV.out HB1.out
             ·have Sq:(aV==0)=false:=beq_eq_false_iff_ne.2 h7
              have HV:=ak (show ¬bZ ((x0,x1),x2,x3,x4,x5,x6,(x7,x8),x9,x10,aS,aV,L) from fun h=>h7 ((iX h) HS.out).1)
              go_wp2
              go_ret
              exact aB HV.out HB1.out
         ·have h9':(x9==0)=false:=beq_eq_false_iff_ne.2 h9
          have XJ:(x9 != 0)=true:=by simp [h9]
          have H9:=ak h9
          clear h9
          go_wp2_with fail
          refine (xW _ _ _ H8.out _).mono ?_
          rintro e w2 ⟨rfl,rfl⟩
          cases b8 with
          | false=>
           have HV:=ak (show ¬bZ ((x0,x1),x2,x3,x4,x5,x6,(x7,x8),x9,x10,aS,aV,L) from fun h=>by have h2:=((qG h).1.2 H9.out).1;rw [H8.out] at h2;cases h2)
           go_wp2
           go_ret
           exact aB HV.out HB1.out
          | true=>
           go_wp2_with fail
           refine (aal _ _ _ _ yF.out _).mono ?_
           rintro e w2 ⟨rfl,hb⟩
           have iD:=ak (cZ.out.call hb)
           have HB2:=ak (HB1.out.trans (hb.mono hz1))
           have hz2:W.heap.size≤w2.heap.size:=HB2.out.size
           clear hb
           clear p0 p1 p2 p3 p4 p5 p6 p7 p8 p9 Si O8 Sd JX
           obtain ⟨p0,p1,p2,p3,p4,p5,p6,p7,p8,p9,Si,O8,Sd,JX⟩:=iD.out.fF rfl
           cases b9 with
           | false=>
            have HV:=ak (show ¬bZ ((x0,x1),x2,x3,x4,x5,x6,(x7,x8),x9,x10,aS,aV,L) from fun h=>by have h2:=((qG h).1.2 H9.out).2.1;rw [yF.out] at h2;cases h2)
            go_wp2
            go_ret
            exact aB HV.out HB2.out
           | true=>
            obtain ⟨q,hq⟩:∃ q,decide (((x7,x8):Int×Int)=(x0,x1))=q:=⟨_,rfl⟩
            have hqq:=iK x7 x8 x0 x1 q hq
            have HQ:=ak hq
            clear hq
            cases q with
            | false=>
             have HD:=ak (show xQ x0 x1 x2 x7 x8 x9 from ⟨fun h=>absurd h H9.out,fun _=>⟨H8.out,yF.out,fun h=>of_decide_eq_false HQ.out (by rw [h.1.1,h.1.2])⟩⟩)
             by_cases h2:aS=2
             ·have h2':(aS==2)=true:=beq_iff_eq.2 h2
              have HS:=ak (show Has aS L from Or.inl h2)
              go_wp2_with fail
              refine (oO _ FP.out _).mono ?_
              rintro e w9 ⟨rfl,rfl⟩
              cases b10 with
              | false=>
               have HV:=ak (show ¬bZ ((x0,x1),x2,x3,x4,x5,x6,(x7,x8),x9,x10,aS,aV,L) from fun h=>by have h2:=((kZ h).1 HS.out).1;rw [FP.out] at h2;cases h2)
               go_wp2
               go_ret
               exact aB HV.out HB2.out
              | true=>
               by_cases hl:(L.length:Int)=x4
               ·have hl':((L.length:Int)==x4)=true:=beq_iff_eq.2 hl
                have HL:=ak hl
                clear hl
                go_wp2_with fail
                refine (kE ((H.out.below cK HB2.out).more cK hz2)).mono ?_
                intro e w3 h
                obtain ⟨b,rfl,hb,hw⟩:=bq h
                have HB:=ak (HB2.out.trans (hw.mono hz2))
                have HV:=ak (show (b=true↔bZ ((x0,x1),x2,x3,x4,x5,x6,(x7,x8),x9,x10,aS,aV,L)) from hb.trans ⟨fun hN=>⟨H0.out,H1.out,H2.out,H3.out,H4.out,H5.out,H6.out,H7.out,HD.out,fun _=>⟨FP.out,HL.out,hN⟩,fun h=>absurd HS.out h⟩,fun h=>((kZ h).1 HS.out).2.2⟩)
                clear h hb hw
                go_wp2
                go_ret
                exact ⟨b,rfl,HV.out,HB.out⟩
               ·have hl':((L.length:Int)==x4)=false:=beq_eq_false_iff_ne.2 hl
                have HV:=ak (show ¬bZ ((x0,x1),x2,x3,x4,x5,x6,(x7,x8),x9,x10,aS,aV,L) from fun h=>hl ((kZ h).1 HS.out).2.1)
                go_wp2
                go_ret
                exact aB HV.out HB2.out
             ·have h2':(aS==2)=false:=beq_eq_false_iff_ne.2 h2
              by_cases h1:aS=1
              ·have h1':(aS==1)=true:=beq_iff_eq.2 h1
               by_cases hp:0<L.length
               ·have hp':decide ((0:Int)<(L.length:Int))=true:=eD (by omega)
                have HS:=ak (show Has aS L from Or.inr ⟨h1,hp⟩)
                go_wp2_with fail
                refine (oO _ FP.out _).mono ?_
                rintro e w9 ⟨rfl,rfl⟩
                cases b10 with
                | false=>
                 have HV:=ak (show ¬bZ ((x0,x1),x2,x3,x4,x5,x6,(x7,x8),x9,x10,aS,aV,L) from fun h=>by have h2:=((kZ h).1 HS.out).1;rw [FP.out] at h2;cases h2)
                 go_wp2
                 go_ret
                 exact aB HV.out HB2.out
                | true=>
                 by_cases hl:(L.length:Int)=x4
                 ·have hl':((L.length:Int)==x4)=true:=beq_iff_eq.2 hl
                  have HL:=ak hl
                  clear hl
                  go_wp2_with fail
                  refine (kE ((H.out.below cK HB2.out).more cK hz2)).mono ?_
                  intro e w3 h
                  obtain ⟨b,rfl,hb,hw⟩:=bq h
                  have HB:=ak (HB2.out.trans (hw.mono hz2))
                  have HV:=ak (show (b=true↔bZ ((x0,x1),x2,x3,x4,x5,x6,(x7,x8),x9,x10,aS,aV,L)) from hb.trans ⟨fun hN=>⟨H0.out,H1.out,H2.out,H3.out,H4.out,H5.out,H6.out,H7.out,HD.out,fun _=>⟨FP.out,HL.out,hN⟩,fun h=>absurd HS.out h⟩,fun h=>((kZ h).1 HS.out).2.2⟩)
                  clear h hb hw
                  go_wp2
                  go_ret
                  exact ⟨b,rfl,HV.out,HB.out⟩
                 ·have hl':((L.length:Int)==x4)=false:=beq_eq_false_iff_ne.2 hl
                  have HV:=ak (show ¬bZ ((x0,x1),x2,x3,x4,x5,x6,(x7,x8),x9,x10,aS,aV,L) from fun h=>hl ((kZ h).1 HS.out).2.1)
                  go_wp2
                  go_ret
                  exact aB HV.out HB2.out
               ·have hp':decide ((0:Int)<(L.length:Int))=false:=dS (by omega)
                have HS:=ak (show ¬Has aS L from fun h=>h.elim h2 (fun h=>hp h.2))
                by_cases h7:aV=0
                ·have Sq:(aV==0)=true:=beq_iff_eq.2 h7
                 have Sz:=ak h7
                 clear h7
                 obtain rfl:L = []:=List.eq_nil_of_length_eq_zero (by omega)
                 clear hp hp' hn
                 have HV:=ak (show bZ ((x0,x1),x2,x3,x4,x5,x6,(x7,x8),x9,x10,aS,aV,[]) from ⟨H0.out,H1.out,H2.out,H3.out,H4.out,H5.out,H6.out,H7.out,HD.out,fun h=>absurd h HS.out,fun _=>⟨Sz.out,rfl⟩⟩)
                 go_wp2
                 go_ret
                 exact bM HV.out HB2.out
                ·have Sq:(aV==0)=false:=beq_eq_false_iff_ne.2 h7
                 have HV:=ak (show ¬bZ ((x0,x1),x2,x3,x4,x5,x6,(x7,x8),x9,x10,aS,aV,L) from fun h=>h7 ((iX h) HS.out).1)
                 go_wp2
                 go_ret
                 exact aB HV.out HB2.out
              ·have h1':(aS==1)=false:=beq_eq_false_iff_ne.2 h1
               have HS:=ak (show ¬Has aS L from fun h=>h.elim h2 (fun h=>h1 h.1))
               by_cases h7:aV=0
               ·have Sq:(aV==0)=true:=beq_iff_eq.2 h7
                have Sz:=ak h7
                clear h7
                by_cases hl:L.length=0
                ·have hl':((L.length:Int)==0)=true:=beq_iff_eq.2 (by omega)
                 have HL:=ak hl
                 clear hl
                 have HV:=ak (show bZ ((x0,x1),x2,x3,x4,x5,x6,(x7,x8),x9,x10,aS,aV,L) from ⟨H0.out,H1.out,H2.out,H3.out,H4.out,H5.out,H6.out,H7.out,HD.out,fun h=>absurd h HS.out,fun _=>⟨Sz.out,HL.out⟩⟩)
                 go_wp2
                 go_ret
                 exact bM HV.out HB2.out
                ·have hl':((L.length:Int)==0)=false:=beq_eq_false_iff_ne.2 (by omega)
                 have HV:=ak (show ¬bZ ((x0,x1),x2,x3,x4,x5,x6,(x7,x8),x9,x10,aS,aV,L) from fun h=>hl ((iX h) HS.out).2)
                 go_wp2
                 go_ret
                 exact aB HV.out HB2.out
               ·have Sq:(aV==0)=false:=beq_eq_false_iff_ne.2 h7
                have HV:=ak (show ¬bZ ((x0,x1),x2,x3,x4,x5,x6,(x7,x8),x9,x10,aS,aV,L) from fun h=>h7 ((iX h) HS.out).1)
                go_wp2
                go_ret
                exact aB HV.out HB2.out
            | true=>
             by_cases hle:x2≤x9
             ·have hle':decide (x2≤x9)=true:=eD hle
              have HV:=ak (show ¬bZ ((x0,x1),x2,x3,x4,x5,x6,(x7,x8),x9,x10,aS,aV,L) from fun h=>((qG h).1.2 H9.out).2.2 ⟨by have h2:=of_decide_eq_true HQ.out;simpa using h2,hle⟩)
              go_wp2
              go_ret
              exact aB HV.out HB2.out
             ·have hle':decide (x2≤x9)=false:=dS hle
              have HD:=ak (show xQ x0 x1 x2 x7 x8 x9 from ⟨fun h=>absurd h H9.out,fun _=>⟨H8.out,yF.out,fun h=>hle h.2⟩⟩)
              by_cases h2:aS=2
              ·have h2':(aS==2)=true:=beq_iff_eq.2 h2
               have HS:=ak (show Has aS L from Or.inl h2)
               go_wp2_with fail
               refine (oO _ FP.out _).mono ?_
               rintro e w9 ⟨rfl,rfl⟩
               cases b10 with
               | false=>
                have HV:=ak (show ¬bZ ((x0,x1),x2,x3,x4,x5,x6,(x7,x8),x9,x10,aS,aV,L) from fun h=>by have h2:=((kZ h).1 HS.out).1;rw [FP.out] at h2;cases h2)
                go_wp2
                go_ret
                exact aB HV.out HB2.out
               | true=>
                by_cases hl:(L.length:Int)=x4
                ·have hl':((L.length:Int)==x4)=true:=beq_iff_eq.2 hl
                 have HL:=ak hl
                 clear hl
                 go_wp2_with fail
                 refine (kE ((H.out.below cK HB2.out).more cK hz2)).mono ?_
                 intro e w3 h
                 obtain ⟨b,rfl,hb,hw⟩:=bq h
                 have HB:=ak (HB2.out.trans (hw.mono hz2))
                 have HV:=ak (show (b=true↔bZ ((x0,x1),x2,x3,x4,x5,x6,(x7,x8),x9,x10,aS,aV,L)) from hb.trans ⟨fun hN=>⟨H0.out,H1.out,H2.out,H3.out,H4.out,H5.out,H6.out,H7.out,HD.out,fun _=>⟨FP.out,HL.out,hN⟩,fun h=>absurd HS.out h⟩,fun h=>((kZ h).1 HS.out).2.2⟩)
                 clear h hb hw
                 go_wp2
                 go_ret
                 exact ⟨b,rfl,HV.out,HB.out⟩
                ·have hl':((L.length:Int)==x4)=false:=beq_eq_false_iff_ne.2 hl
                 have HV:=ak (show ¬bZ ((x0,x1),x2,x3,x4,x5,x6,(x7,x8),x9,x10,aS,aV,L) from fun h=>hl ((kZ h).1 HS.out).2.1)
                 go_wp2
                 go_ret
                 exact aB HV.out HB2.out
              ·have h2':(aS==2)=false:=beq_eq_false_iff_ne.2 h2
               by_cases h1:aS=1
               ·have h1':(aS==1)=true:=beq_iff_eq.2 h1
                by_cases hp:0<L.length
                ·have hp':decide ((0:Int)<(L.length:Int))=true:=eD (by omega)
                 have HS:=ak (show Has aS L from Or.inr ⟨h1,hp⟩)
                 go_wp2_with fail
                 refine (oO _ FP.out _).mono ?_
                 rintro e w9 ⟨rfl,rfl⟩
                 cases b10 with
                 | false=>
                  have HV:=ak (show ¬bZ ((x0,x1),x2,x3,x4,x5,x6,(x7,x8),x9,x10,aS,aV,L) from fun h=>by have h2:=((kZ h).1 HS.out).1;rw [FP.out] at h2;cases h2)
                  go_wp2
                  go_ret
                  exact aB HV.out HB2.out
                 | true=>
                  by_cases hl:(L.length:Int)=x4
                  ·have hl':((L.length:Int)==x4)=true:=beq_iff_eq.2 hl
                   have HL:=ak hl
                   clear hl
                   go_wp2_with fail
                   refine (kE ((H.out.below cK HB2.out).more cK hz2)).mono ?_
                   intro e w3 h
                   obtain ⟨b,rfl,hb,hw⟩:=bq h
                   have HB:=ak (HB2.out.trans (hw.mono hz2))
                   have HV:=ak (show (b=true↔bZ ((x0,x1),x2,x3,x4,x5,x6,(x7,x8),x9,x10,aS,aV,L)) from hb.trans ⟨fun hN=>⟨H0.out,H1.out,H2.out,H3.out,H4.out,H5.out,H6.out,H7.out,HD.out,fun _=>⟨FP.out,HL.out,hN⟩,fun h=>absurd HS.out h⟩,fun h=>((kZ h).1 HS.out).2.2⟩)
                   clear h hb hw
                   go_wp2
                   go_ret
                   exact ⟨b,rfl,HV.out,HB.out⟩
                  ·have hl':((L.length:Int)==x4)=false:=beq_eq_false_iff_ne.2 hl
                   have HV:=ak (show ¬bZ ((x0,x1),x2,x3,x4,x5,x6,(x7,x8),x9,x10,aS,aV,L) from fun h=>hl ((kZ h).1 HS.out).2.1)
                   go_wp2
                   go_ret
                   exact aB HV.out HB2.out
                ·have hp':decide ((0:Int)<(L.length:Int))=false:=dS (by omega)
                 have HS:=ak (show ¬Has aS L from fun h=>h.elim h2 (fun h=>hp h.2))
                 by_cases h7:aV=0
                 ·have Sq:(aV==0)=true:=beq_iff_eq.2 h7
                  have Sz:=ak h7
                  clear h7
                  obtain rfl:L = []:=List.eq_nil_of_length_eq_zero (by omega)
                  clear hp hp' hn
                  have HV:=ak (show bZ ((x0,x1),x2,x3,x4,x5,x6,(x7,x8),x9,x10,aS,aV,[]) from ⟨H0.out,H1.out,H2.out,H3.out,H4.out,H5.out,H6.out,H7.out,HD.out,fun h=>absurd h HS.out,fun _=>⟨Sz.out,rfl⟩⟩)
                  go_wp2
                  go_ret
                  exact bM HV.out HB2.out
                 ·have Sq:(aV==0)=false:=beq_eq_false_iff_ne.2 h7
                  have HV:=ak (show ¬bZ ((x0,x1),x2,x3,x4,x5,x6,(x7,x8),x9,x10,aS,aV,L) from fun h=>h7 ((iX h) HS.out).1)
                  go_wp2
                  go_ret
                  exact aB HV.out HB2.out
               ·have h1':(aS==1)=false:=beq_eq_false_iff_ne.2 h1
                have HS:=ak (show ¬Has aS L from fun h=>h.elim h2 (fun h=>h1 h.1))
                by_cases h7:aV=0
                ·have Sq:(aV==0)=true:=beq_iff_eq.2 h7
                 have Sz:=ak h7
                 clear h7
                 by_cases hl:L.length=0
                 ·have hl':((L.length:Int)==0)=true:=beq_iff_eq.2 (by omega)
                  have HL:=ak hl
                  clear hl
                  have HV:=ak (show bZ ((x0,x1),x2,x3,x4,x5,x6,(x7,x8),x9,x10,aS,aV,L) from ⟨H0.out,H1.out,H2.out,H3.out,H4.out,H5.out,H6.out,H7.out,HD.out,fun h=>absurd h HS.out,fun _=>⟨Sz.out,HL.out⟩⟩)
                  go_wp2
                  go_ret
                  exact bM HV.out HB2.out
                 ·have hl':((L.length:Int)==0)=false:=beq_eq_false_iff_ne.2 (by omega)
                  have HV:=ak (show ¬bZ ((x0,x1),x2,x3,x4,x5,x6,(x7,x8),x9,x10,aS,aV,L) from fun h=>hl ((iX h) HS.out).2)
                  go_wp2
                  go_ret
                  exact aB HV.out HB2.out
                ·have Sq:(aV==0)=false:=beq_eq_false_iff_ne.2 h7
                 have HV:=ak (show ¬bZ ((x0,x1),x2,x3,x4,x5,x6,(x7,x8),x9,x10,aS,aV,L) from fun h=>h7 ((iX h) HS.out).1)
                 go_wp2
                 go_ret
                 exact aB HV.out HB2.out
end
end aQ
end Go.Proofs.YtlhfiapfncikdaaGreatDoor
