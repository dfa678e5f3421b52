import Derived.Test.YtlhfiapfncikdaaGreatDoorPU6
import Derived.Test.YtlhfiapfncikdaaGreatDoorPU10
import Derived.Test.YtlhfiapfncikdaaGreatDoorPU12
set_option linter.unusedVariables false
set_option linter.unusedSimpArgs false
set_option maxRecDepth 100000
set_option maxHeartbeats 3200000
namespace Go.Proofs.YtlhfiapfncikdaaGreatDoor.aP
section
open Go.RowKit bN bP bJ bM fT
open Classical in
noncomputable def kg (s:ByteArray):Bool:=decide (nC s)
open Classical in
theorem jS {s:ByteArray}:kg s=true↔nC s:=by unfold kg;simp
theorem GN {s:ByteArray}{w w':World}{e:Ending}(h:fT.Res (nC s) w e w'):e=.returned (.bool (kg s))∧Below w.heap.size w w':=by
 obtain ⟨b,rfl,hb,rfl⟩:=h
 have:b=kg s:=by
  cases b <;> cases hn:kg s
  ·rfl
  ·exact absurd (hb.2 (jS.1 hn)) (by decide)
  ·exact absurd (jS.2 (hb.1 rfl)) (by rw [hn];decide)
  ·rfl
 exact ⟨by rw [this],aU _ _⟩
theorem ns_w (s:ByteArray)(hs:s.size≤maxLen)(w:World):Calls Tryz.prog 163 #[.string s] w fun e w'=>e=.returned (.bool (kg s))∧Below w.heap.size w w':=(GK s w hs).mono fun _ _ h=>GN h
theorem ni_w (s:ByteArray)(hs:s.size≤maxLen)(w:World):Calls Tryz.prog 197 #[.string s] w fun e w'=>e=.returned (.bool (kg s))∧Below w.heap.size w w':=(Ht s w hs).mono fun _ _ h=>GN h
theorem is_w (n lo hi:Int)(w:World):Calls Tryz.prog 157 #[.int .i64 n,.int .i64 lo,.int .i64 hi] w fun e w'=>e=.returned (.bool (dI n lo hi))∧Below w.heap.size w w':=(pU n lo hi w).mono fun _ _ ⟨h1,h2⟩=>⟨h1,by rw [h2];exact aU _ _⟩
theorem ur_w (n:Int)(w:World):Calls Tryz.prog 198 #[.int .i64 n] w fun e w'=>e=.returned (.bool (dI n 1 100000))∧Below w.heap.size w w':=by
 go_enter Tryz.func198,Tryz.ntmps198
 go_wp2_with (go_at_call 191;refine (lF _ _ _ _).mono ?_;rintro e w' ⟨rfl,rfl⟩)
 go_ret
 exact ⟨rfl,aU _ _⟩
theorem Gi {l s:Int}(h:dD.rB l s=true):0≤l∧l≤3∧0≤s∧s≤7:=by simpa [dD.AJ,dD.rP] using h
theorem MN {l s:Int}(h:dD.rB l s=true)(w:World):Calls Tryz.prog 124 #[.agg #[.int .i64 l,.int .i64 s]] w fun e w'=>e=.returned (.int .i64 (8*l+s))∧Below w.heap.size w w':=by
 obtain ⟨h1,h2,h3,h4⟩:=Gi h
 go_enter Tryz.func124,Tryz.ntmps124
 go_wp2
 go_ret
 exact ⟨rfl,(aU _ _).alloc (bK _) _⟩
def yj (x y:bH):Bool:=if decide (x.1=y.1)=true then Cr x.2.1 y.2.1 else decide (8*x.1.1+x.1.2<8*y.1.1+y.1.2)
theorem DY {x y:bH}(hx:dD.rB x.1.1 x.1.2=true)(hy:dD.rB y.1.1 y.1.2=true):yj x y=true↔Z8 x y:=by
 obtain ⟨⟨a,b⟩,o,n⟩:=x
 obtain ⟨⟨c,d⟩,p,m⟩:=y
 have h1:=Gi hx
 have h2:=Gi hy
 unfold yj Z8 j3
 simp only at *
 split
 ·rename_i h
  simp only [decide_eq_true_eq,Prod.mk.injEq] at h
  obtain ⟨rfl,rfl⟩:=h
  simp
 ·rename_i h
  simp only [decide_eq_true_eq,Prod.mk.injEq] at h
  simp only [decide_eq_true_eq,Prod.mk.injEq]
  constructor
  ·intro h3;left;omega
  ·rintro (h3 | ⟨h3,_⟩) <;> omega
theorem abL {x0 x1 x3 y0 y1 y3:Int}{x2 y2:ByteArray}(hx:dD.rB x0 x1=true)(hy:dD.rB y0 y1=true)(W:World) :
 Calls Tryz.prog 164 #[.agg #[.int .i64 x0,.int .i64 x1,.string x2,.int .i64 x3],.agg #[.int .i64 y0,.int .i64 y1,.string y2,.int .i64 y3]] W fun e w'=>e=.returned (.bool (yj ((x0,x1),x2,x3) ((y0,y1),y2,y3)))∧Below W.heap.size W w':=by
 obtain ⟨V0,wS⟩:∃ V0,V0=(W.alloc (.cells #[.int .i64 x0,.int .i64 x1,.string x2,.int .i64 x3] 128)).alloc (.cells #[.int .i64 y0,.int .i64 y1,.string y2,.int .i64 y3] 128):=⟨_,rfl⟩
 have BA:=aj (show aN V0 W.heap.size 128 #[.int .i64 x0,.int .i64 x1,.string x2,.int .i64 x3] from by rw [wS];exact (aN.new W _ _).alloc _)
 have BB:=aj (show aN V0 (W.heap.size+1) 128 #[.int .i64 y0,.int .i64 y1,.string y2,.int .i64 y3] from by
  have h9:=aN.new (W.alloc (.cells #[.int .i64 x0,.int .i64 x1,.string x2,.int .i64 x3] 128)) 128 #[.int .i64 y0,.int .i64 y1,.string y2,.int .i64 y3]
  simp only [World.size_alloc] at h9
  rw [wS];exact h9)
 have HB0:=aj (show Below W.heap.size W V0 from by rw [wS];exact ((aU _ _).alloc (bK _) _).alloc (by simp) _)
 obtain ⟨b,hb⟩:∃ b,decide (((x0,x1):Int×Int)=(y0,y1))=b:=⟨_,rfl⟩
 have hn:=wh x0 x1 y0 y1 b hb
 cases b with
 | true=>
  have HE:=aj (show yj ((x0,x1),x2,x3) ((y0,y1),y2,y3)=Cr x2 y2 from by unfold yj;rw [if_pos hb])
  clear hb
  rw [wS] at HB0
  clear wS BA BB
  go_enter Tryz.func164,Tryz.ntmps164
  go_wp2
  go_ret
  exact ⟨by rw [HE.out];rfl,HB0.out⟩
 | false=>
  have HE:=aj (show yj ((x0,x1),x2,x3) ((y0,y1),y2,y3)=decide (8*x0+x1<8*y0+y1) from by unfold yj;rw [if_neg (by rw [hb];decide)])
  clear hb
  obtain ⟨a0,a1⟩:=BA.out.kZ rfl
  obtain ⟨b0,b1⟩:=BB.out.kZ rfl
  rw [wS] at a0 a1 b0 b1
  go_enter Tryz.func164,Tryz.ntmps164
  go_wp2_with fail
  rw [←wS]
  clear wS a0 a1 b0 b1 hn
  refine dW (S:=(fun V=>Below (V0).heap.size (V0) V)) (by kernel_rfl) ((aU _ _).drew) (fun ah=>?_)
  refine tk 0 ah ?_
  refine tk 1 ah ?_ (hy:=fun w hSw=>by (try dsimp only at hSw);have k0:=BA.out.hat hSw 0 rfl;have k1:=BA.out.hat hSw 1 rfl;clear hSw;go_simp;try with_reducible rfl)
  refine tk 3 ah ?_
  refine tk 4 ah ?_ (hy:=fun w hSw=>by (try dsimp only at hSw);have k0:=BB.out.hat hSw 0 rfl;have k1:=BB.out.hat hSw 1 rfl;clear hSw;go_simp;try with_reducible rfl)
  refine cZ 2 (fun K hK=>?_)
  go_simp
  go_at_call 124
  refine (MN hx _).mono ?_
  rintro e w1 ⟨rfl,hb⟩
  refine hK.out _ _ (ah.trans (hb.mono ah.size)) (fun ah=>?_)
  clear hK K hb
  refine cZ 5 (fun K hK=>?_)
  go_simp
  go_at_call 124
  refine (MN hy _).mono ?_
  rintro e w2 ⟨rfl,hb⟩
  refine hK.out _ _ (ah.trans (hb.mono ah.size)) (fun ah=>?_)
  clear hK K hb
  refine tk 6 ah ?_
  refine tk 7 ah ?_
  refine dQ ?_
  have HF:=aj ah
  clear ah
  have HB1:=aj (HB0.out.trans (HF.out.mono HB0.out.size))
  go_wp2
  go_ret
  exact ⟨by rw [HE.out];rfl,HB1.out⟩
end
section
open Go.RowKit bN bP bJ bM
def Z7 (L:List Int)(i:Nat):Prop:=∀ x,L[i]? = some x→dI x 0 5=true∧(0<i→∀ y,L[i-1]? = some y→y<x)
def mI (L:List Int):Prop:=∀ i,i<L.length→Z7 L i
theorem Hf (n lo hi:Int){b:Bool}(hb:dI n lo hi=b)(w:World) :
 Calls Tryz.prog 157 #[.int .i64 n,.int .i64 lo,.int .i64 hi] w fun e w'=>e=.returned (.bool b)∧Below w.heap.size w w':=by
 subst hb
 exact (pU n lo hi w).mono fun _ _ ⟨h1,h2⟩=>⟨h1,h2 ▸ aU _ _⟩
theorem kG {L:List Int}{a:Option Addr}{cap:Nat}{W:World}(h:aH I W W.heap.size L a cap) :
 Calls Tryz.prog 186 #[.slice a L.length cap] W (jh (mI L) W):=by
 have hn:L.length≤9223372036854775807:=by have h1:=h.1;have h2:=h.2.1;unfold maxLen at h2;omega
 have H:=aj h
 clear h
 go_enter Tryz.func186,Tryz.ntmps186
 go_wp2
 go_loopw [3] (fun i wr=>∃ k:Nat,k≤L.length∧i=.int .i64 k∧(∀ j,j<k→Z7 L j)∧Below W.heap.size W wr) (fun i _=>L.length-(intOf i).toNat)
 case atStart=>exact ⟨0,dX _,rfl,fun j h=>absurd h (gT _),aU _ _⟩
 case round=>
  obtain ⟨k,hk,rfl,hall,hB⟩:=hrel
  have HA:=aj hall
  have HB:=aj hB
  have hsz:=hB.size
  clear hall
  by_cases hlt:k<L.length
  ·obtain ⟨x,hx⟩:=aL hlt
   have HX:=aj hx
   obtain ⟨g,o,us,rfl,hg,hu,hr⟩:=(H.out.below cO hB).at_ hx
   obtain rfl:us = [_]:=hr
   have hc0:wr.cell? ⟨g,o+k,none⟩=some (.int .i64 x):=by simpa [show I.size=1 from rfl] using hu 0 _ rfl
   have hgl:g<wr.heap.size:=bV hg hsz
   have hi0:(0:Int)≤(k:Int):=eu _
   have hi1:(k:Int)<(L.length:Int):=by omega
   clear hB hx hu
   cases hr:dI x 0 5 with
   | false=>
    have Hno:=aj (show ¬mI L from fun h=>by have:=(h k hlt x HX.out).1;rw [hr] at this;cases this)
    have hrs:=fun W=>Hf x 0 5 hr W
    clear hr
    go_wp2_with fail
    refine dW (S:=(fun V=>V.cell? ⟨g,o+k,none⟩=some (.int .i64 x)∧wr.heap.size≤V.heap.size∧Below (W.heap.size) (W) V)) (by kernel_rfl) (⟨hc0,bK _,HB.out.drew⟩) (fun ah=>?_)
    refine tk 0 ah ?_
    refine tk 1 ah ?_
    refine tk 2 ah ?_
    refine tk 3 ah ?_
    refine cZ 4 (fun K hK=>?_)
    go_simp
    go_at_call 157;refine (hrs _).mono ?_;rintro e w1 ⟨rfl,hb⟩
    refine hK.out _ _ (⟨(hb.cell (p:=⟨g,o+k,none⟩) (bV hgl ah.2.1)).trans ah.1,eH ah.2.1 hb.size,ah.2.2.trans (hb.mono (eH hsz ah.2.1))⟩) (fun ah=>?_)
    clear hK K
    refine tk 5 ah ?_
    refine tk 6 ah ?_
    refine tn 7 ah ?_
    refine tn 8 ah ?_
    refine tn 9 ah ?_
    refine tn 10 ah ?_
    refine tn 11 ah ?_
    refine tn 12 ah ?_
    refine tn 13 ah ?_
    refine tn 14 ah ?_
    refine tn 15 ah ?_
    refine tn 16 ah ?_
    refine tn 17 ah ?_
    refine tn 18 ah ?_
    refine tn 19 ah ?_
    refine tn 20 ah ?_
    refine tk 21 ah ?_
    refine dQ ?_
    have HF:=aj ah.2.2
    clear ah
    go_wp2
    go_ret
    exact aA Hno.out HF.out
   | true=>
    have hrs:=fun W=>Hf x 0 5 hr W
    have Hr:=aj hr
    clear hr
    rcases Nat.eq_zero_or_pos k with hk0 | hk0
    ·subst hk0
     have hc0':wr.cell? ⟨g,o,none⟩=some (.int .i64 x):=hc0
     clear hc0
     have kY:=aj (iW HA.out (show Z7 L 0 from fun y hy=>by have:=HX.out;rw [hy] at this;obtain rfl:=fB this;exact ⟨Hr.out,fun h=>absurd h (jK _)⟩))
     go_wp2_with fail
     refine dW (S:=(fun V=>V.cell? ⟨g,o,none⟩=some (.int .i64 x)∧wr.heap.size≤V.heap.size∧Below (W.heap.size) (W) V)) (by kernel_rfl) (⟨hc0',bK _,HB.out.drew⟩) (fun ah=>?_)
     refine tk 0 ah ?_
     refine tk 1 ah ?_
     refine tk 2 ah ?_
     refine tk 3 ah ?_
     refine cZ 4 (fun K hK=>?_)
     go_simp
     go_at_call 157;refine (hrs _).mono ?_;rintro e w1 ⟨rfl,hb⟩
     refine hK.out _ _ (⟨(hb.cell (p:=⟨g,o,none⟩) (bV hgl ah.2.1)).trans ah.1,eH ah.2.1 hb.size,ah.2.2.trans (hb.mono (eH hsz ah.2.1))⟩) (fun ah=>?_)
     clear hK K
     refine tk 5 ah ?_
     refine tk 6 ah ?_
     refine tk 7 ah ?_
     refine tk 8 ah ?_
     refine tk 9 ah ?_
     refine tn 10 ah ?_
     refine tn 11 ah ?_
     refine tn 12 ah ?_
     refine tn 13 ah ?_
     refine tn 14 ah ?_
     refine tn 15 ah ?_
     refine tn 16 ah ?_
     refine tn 17 ah ?_
     refine tn 18 ah ?_
     refine tn 19 ah ?_
     refine tk 20 ah ?_
     refine tk 21 ah ?_
     refine dQ ?_
     have HF:=aj ah.2.2
     clear ah
     go_wp2
     go_roundw
     case rel=>exact ⟨1,by omega,by go_num,kY.out,HF.out⟩
     case measure=>simp [intOf];omega
    ·obtain ⟨j,rfl⟩:∃ j,k=j+1:=⟨k-1,by omega⟩
     obtain ⟨y,hy⟩:=aL (L:=L) (k:=j) (by omega)
     have HY:=aj hy
     obtain ⟨g2,o2,us,he,hg2,hu,hr⟩:=(H.out.below cO HB.out).at_ hy
     cases he
     obtain rfl:us = [_]:=hr
     have hd0:wr.cell? ⟨g,o+j,none⟩=some (.int .i64 y):=by simpa [show I.size=1 from rfl] using hu 0 _ rfl
     have hj0:(0:Int)≤(j:Int):=eu _
     have hj1:(j:Int)<(L.length:Int):=by omega
     have Yq:IntKind.i64.wrap (j:Int)=(j:Int):=gJ _ (by omega)
     have Yt:(0:Int)≤(j:Int)+1:=by omega
     have Yr:(j:Int)+1<(L.length:Int):=by omega
     have Xm:IntKind.i64.wrap ((j:Int)+1-1)=(j:Int):=(by rw [show (j:Int)+1-1=(j:Int) by omega];exact gJ _ (by omega))
     have hjp:decide ((0:Int)<(j:Int)+1)=true:=eO (by omega)
     clear hy hu hg2
     by_cases hlo:x≤y
     ·have Hno:=aj (show ¬mI L from fun h=>by have h2:=(h (j+1) hlt x HX.out).2 (Nat.succ_pos _) y HY.out;omega)
      have hlo':decide (x≤y)=true:=eO hlo
      go_wp2_with fail
      refine dW (S:=(fun V=>V.cell? ⟨g,o+j,none⟩=some (.int .i64 y)∧V.cell? ⟨g,o+(j+1),none⟩=some (.int .i64 x)∧wr.heap.size≤V.heap.size∧Below (W.heap.size) (W) V)) (by kernel_rfl) (⟨hd0,hc0,bK _,HB.out.drew⟩) (fun ah=>?_)
      refine tk 0 ah ?_
      refine tk 1 ah ?_
      refine tk 2 ah ?_
      refine tk 3 ah ?_
      refine cZ 4 (fun K hK=>?_)
      go_simp
      go_at_call 157;refine (hrs _).mono ?_;rintro e w1 ⟨rfl,hb⟩
      refine hK.out _ _ (⟨(hb.cell (p:=⟨g,o+j,none⟩) (bV hgl ah.2.2.1)).trans ah.1,(hb.cell (p:=⟨g,o+(j+1),none⟩) (bV hgl ah.2.2.1)).trans ah.2.1,eH ah.2.2.1 hb.size,ah.2.2.2.trans (hb.mono (eH hsz ah.2.2.1))⟩) (fun ah=>?_)
      clear hK K
      refine tk 5 ah ?_
      refine tk 6 ah ?_
      refine tk 7 ah ?_
      refine tk 8 ah ?_
      refine tk 9 ah ?_
      refine tk 10 ah ?_
      refine tk 11 ah ?_
      refine tk 12 ah ?_
      refine tk 13 ah ?_
      refine tk 14 ah ?_
      refine tk 15 ah ?_
      refine tk 16 ah ?_
      refine tk 17 ah ?_
      refine tk 18 ah ?_
      refine tk 19 ah ?_
      refine tk 20 ah ?_
      refine tk 21 ah ?_
      refine dQ ?_
      have HF:=aj ah.2.2.2
      clear ah
      go_wp2
      go_ret
      exact aA Hno.out HF.out
     ·have kY:=aj (iW HA.out (show Z7 L (j+1) from fun z hz=>by
       have:=HX.out;rw [hz] at this;obtain rfl:=fB this
       exact ⟨Hr.out,fun _ u hu=>by have h3:=HY.out;rw [Nat.add_sub_cancel] at hu;rw [hu] at h3;obtain rfl:=fB h3;omega⟩))
      have hlo':decide (x≤y)=false:=dU hlo
      go_wp2_with fail
      refine dW (S:=(fun V=>V.cell? ⟨g,o+j,none⟩=some (.int .i64 y)∧V.cell? ⟨g,o+(j+1),none⟩=some (.int .i64 x)∧wr.heap.size≤V.heap.size∧Below (W.heap.size) (W) V)) (by kernel_rfl) (⟨hd0,hc0,bK _,HB.out.drew⟩) (fun ah=>?_)
      refine tk 0 ah ?_
      refine tk 1 ah ?_
      refine tk 2 ah ?_
      refine tk 3 ah ?_
      refine cZ 4 (fun K hK=>?_)
      go_simp
      go_at_call 157;refine (hrs _).mono ?_;rintro e w1 ⟨rfl,hb⟩
      refine hK.out _ _ (⟨(hb.cell (p:=⟨g,o+j,none⟩) (bV hgl ah.2.2.1)).trans ah.1,(hb.cell (p:=⟨g,o+(j+1),none⟩) (bV hgl ah.2.2.1)).trans ah.2.1,eH ah.2.2.1 hb.size,ah.2.2.2.trans (hb.mono (eH hsz ah.2.2.1))⟩) (fun ah=>?_)
      clear hK K
      refine tk 5 ah ?_
      refine tk 6 ah ?_
      refine tk 7 ah ?_
      refine tk 8 ah ?_
      refine tk 9 ah ?_
      refine tk 10 ah ?_
      refine tk 11 ah ?_
      refine tk 12 ah ?_
      refine tk 13 ah ?_
      refine tk 14 ah ?_
      refine tk 15 ah ?_
      refine tk 16 ah ?_
      refine tk 17 ah ?_
      refine tk 18 ah ?_
      refine tk 19 ah ?_
      refine tk 20 ah ?_
      refine tk 21 ah ?_
      refine dQ ?_
      have HF:=aj ah.2.2.2
      clear ah
      go_wp2
      go_roundw
      case rel=>exact ⟨j+2,by omega,by go_num,kY.out,HF.out⟩
      case measure=>simp [intOf];omega
  ·have Hy:=aj (show mI L from fun i hi=>HA.out i (by omega))
   clear hB
   go_wp2
   go_ret
   exact bO Hy.out HB.out
end
section
open Go.RowKit bN bP bJ bM fT
def Em (need start:Int)(L:List Int):Prop:=dI start 0 1000000=true∧(L.length:Int)=need∧mI L
def En (start:Int)(L:List Int):Prop:=start=0∧L.length=0
def xC (l s id ul us after:Int):Prop:=(after=0→ul=0∧us=0)∧(after≠0→dI after 1 12=true∧dD.iY ul us l s=true∧¬((ul=l∧us=s)∧id≤after))
def Has (st:Int)(L:List Int):Prop:=st=2∨(st=1∧0<L.length)
def cB:aG→Prop
 | ((l,s),id,ow,need,long,prio,(ul,us),after,born,st,start,L)=>dD.rB l s=true∧dI id 1 12=true∧kg ow=true∧dI need 1 6=true∧dI long 1 20=true∧dI prio 0 9=true∧dI born 0 999900=true∧dI st 1 6=true∧xC l s id ul us after∧(Has st L→Em need start L)∧(¬Has st L→En start L)
open Classical in
noncomputable def Dk (x:aG):Bool:=decide (cB x)
open Classical in
theorem lN {x:aG}:Dk x=true↔cB x:=by unfold Dk;simp
abbrev Eo (x:aG):av:=x.1
abbrev Jt (x:aG):Int:=x.2.1
abbrev UK (x:aG):ByteArray:=x.2.2.1
abbrev ach (x:aG):Int:=x.2.2.2.1
abbrev Dl (x:aG):Int:=x.2.2.2.2.1
abbrev aby (x:aG):av:=x.2.2.2.2.2.2.1
abbrev UL (x:aG):Int:=x.2.2.2.2.2.2.2.1
abbrev aac (x:aG):Int:=x.2.2.2.2.2.2.2.2.1
abbrev pG (x:aG):Int:=x.2.2.2.2.2.2.2.2.2.1
abbrev jY (x:aG):Int:=x.2.2.2.2.2.2.2.2.2.2.1
abbrev kV (x:aG):List Int:=x.2.2.2.2.2.2.2.2.2.2.2
abbrev mQ (x:aG):av×Int:=(x.1,x.2.1)
theorem cB.lab {x:aG}(h:cB x):dD.rB (Eo x).1 (Eo x).2=true:=h.1
theorem cB.id {x:aG}(h:cB x):1≤Jt x∧Jt x≤12:=(dG _ _ _).1 h.2.1
def FI (a b:av×Int):Prop:=j3 a.1 b.1∨(a.1=b.1∧a.2<b.2)
theorem rW {a b c:av×Int}(h1:FI a b)(h2:FI b c):FI a c:=by
 obtain ⟨⟨a0,a1⟩,a2⟩:=a;obtain ⟨⟨b0,b1⟩,b2⟩:=b;obtain ⟨⟨c0,c1⟩,c2⟩:=c
 unfold FI j3 at *
 simp only [Prod.mk.injEq] at *
 omega
theorem kH {a:av×Int}:¬FI a a:=by
 obtain ⟨⟨a0,a1⟩,a2⟩:=a
 unfold FI j3
 simp only [Prod.mk.injEq]
 omega
def qK (L:List aG)(n:Nat):Prop:=∀ i j x y,i<j→j<n→L[i]? = some x→L[j]? = some y→FI (mQ x) (mQ y)
theorem qK.zero {L:List aG}:qK L 0:=fun i j x y _ h=>absurd h (gT _)
theorem qK.step {L:List aG}{n:Nat}{x:aG}(h:qK L n)(hx:L[n]? = some x)(hl:∀ y,0<n→L[n-1]? = some y→FI (mQ y) (mQ x)):qK L (n+1):=by
 intro i j u v hij hj hu hv
 by_cases e:j=n
 ·subst e
  rw [hx] at hv;cases hv
  have hj:j<L.length:=(List.getElem?_eq_some_iff.1 hx).1
  obtain ⟨y,hy⟩:∃ y,L[j-1]? = some y:=⟨L[j-1],List.getElem?_eq_getElem (by omega)⟩
  have h1:=hl y (by omega) hy
  by_cases e2:i=j-1
  ·subst e2;rw [hu] at hy;cases hy;exact h1
  ·exact rW (h i (j-1) u y (by omega) (by omega) hu hy) h1
 ·exact h i j u v hij (by omega) hu hv
theorem qK.take {L:List aG}{n m:Nat}(h:qK L n)(hm:m≤n)(hL:m≤L.length):qK (L.take m) (L.take m).length:=by
 intro i j x y hij hj hx hy
 rw [List.length_take,Nat.min_eq_left hL] at hj
 rw [List.getElem?_take,if_pos (by omega)] at hx hy
 exact h i j x y hij (by omega) hx hy
def uX (L:List aG)(a:av×Int):Int:=match L.findIdx? (fun x=>decide (mQ x=a)) with
 | some i=>(i:Int)
 | none=>-1
theorem OD {L:List aG}{a:av×Int}{k:Nat}{x:aG}(h:∀ i y,i<k→L[i]? = some y→mQ y≠a)(hx:L[k]? = some x)(hk:mQ x=a):uX L a=(k:Int):=by
 have hkl:=(List.getElem?_eq_some_iff.1 hx).1
 have:L.findIdx? (fun x=>decide (mQ x=a))=some k:=by
  rw [List.findIdx?_eq_some_iff_getElem]
  refine ⟨hkl,?_,fun j hj=>?_⟩
  ·have:=(List.getElem?_eq_some_iff.1 hx).2
   rw [this];simpa using hk
  ·have h1:=h j _ hj (List.getElem?_eq_getElem (iG hj hkl))
   simpa using h1
 unfold uX
 rw [this]
theorem Io {L:List aG}{a:av×Int}(h:∀ i y,i<L.length→L[i]? = some y→mQ y≠a):uX L a=-1:=by
 have:L.findIdx? (fun x=>decide (mQ x=a))=none:=by
  rw [List.findIdx?_eq_none_iff]
  intro x hx
  obtain ⟨i,hi,rfl⟩:=List.mem_iff_getElem.1 hx
  have:=h i _ hi (List.getElem?_eq_getElem hi)
  simpa using this
 unfold uX
 rw [this]
def AB (y x:aG):Prop:=(Eo y=Eo x∧Jt x=Jt y+1)∨(j3 (Eo y) (Eo x)∧Jt x=1)
def okT (L:List aG)(i:Nat)(x:aG):Prop:=cB x∧(i=0→Jt x=1)∧(∀ y,0<i→L[i-1]? = some y→AB y x)∧(UL x≠0→0≤uX (L.take i) (aby x,UL x))
def Ai (L:List aG)(k:Nat):Prop:=∀ i x,i<k→L[i]? = some x→okT L i x
def pK (L:List aG):Prop:=L.length≤96∧∀ i x,L[i]? = some x→okT L i x
open Classical in
noncomputable def ou (L:List aG):Bool:=decide (pK L)
open Classical in
theorem jq {L:List aG}:ou L=true↔pK L:=by unfold ou;simp
theorem Bu {L:List aG}:Ai L 0:=fun i x h=>absurd h (gT _)
theorem jr {L:List aG}{k:Nat}{x:aG}(h:Ai L k)(hx:L[k]? = some x)(hk:okT L k x):Ai L (k+1):=fun i y hi hy=>by
 rcases Nat.lt_succ_iff_lt_or_eq.1 hi with h1 | h1
 ·exact h i y h1 hy
 ·subst h1;rw [hx] at hy;cases hy;exact hk
theorem Br {L:List aG}(h1:L.length≤96)(h:Ai L L.length):pK L:=⟨h1,fun i x hx=>h i x (List.getElem?_eq_some_iff.1 hx).1 hx⟩
theorem iC {L:List aG}{k:Nat}{x:aG}(hx:L[k]? = some x)(h:¬okT L k x):¬pK L:=fun hr=>h (hr.2 k x hx)
theorem VH {y x:aG}(h:AB y x):FI (mQ y) (mQ x):=by
 rcases h with ⟨h1,h2⟩ | ⟨h1,h2⟩
 ·exact .inr ⟨h1,by show Jt y<Jt x;omega⟩
 ·exact .inl h1
theorem DC {L:List aG}:∀ {k:Nat},Ai L k→k≤L.length→qK L k
 | 0,_,_=>qK.zero
 | k+1,h,hk=>by
  obtain ⟨x,hx⟩:∃ x,L[k]? = some x:=⟨L[k],List.getElem?_eq_getElem (by omega)⟩
  exact (DC (fun i x hi hx=>h i x (by omega) hx) (by omega)).step hx fun y h0 hy=>VH ((h k x (by omega) hx).2.2.1 y h0 hy)
end
end Go.Proofs.YtlhfiapfncikdaaGreatDoor.aP
