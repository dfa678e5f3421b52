import Derived.Test.YtlhfiapfncikdaaGreatDoorPN8
import Derived.Test.YtlhfiapfncikdaaGreatDoorPN15
set_option linter.unusedVariables false
set_option linter.unusedSimpArgs false
set_option maxRecDepth 100000
set_option maxHeartbeats 3200000
namespace Go.Proofs.YtlhfiapfncikdaaGreatDoor
namespace aQ
section
open Go.RowKit bN bO bJ bQ eO gB
theorem O5 (a0 a1 b0 b1:Int)(V:World):Calls Tryz.prog 230 #[.agg #[.int .i64 a0,.int .i64 a1],.agg #[.int .i64 b0,.int .i64 b1]] V fun e w'=>e=.returned (.int .i64 (jT a0 a1 b0 b1))∧Below V.heap.size V w':=
 (zV a0 a1 b0 b1 V).mono fun e w' ⟨h1,h2⟩=>⟨h1,by rw [h2];exact (((aW V.heap.size V).alloc (bK _) _).alloc (by simp) _).drew.alloc (by simp;omega) _⟩
theorem aaH (a0 a1 b0 b1:Int):(jT a0 a1 b0 b1=-1∧jY (a0,a1) (b0,b1))∨(jT a0 a1 b0 b1=0∧((a0,a1):Int×Int)=(b0,b1))∨(jT a0 a1 b0 b1=1∧jY (b0,b1) (a0,a1)):=by
 unfold jT O9 jY
 rcases EH a0 b0 with ⟨e1,h1⟩ | ⟨e1,h1⟩ | ⟨e1,h1⟩ <;> rcases EH a1 b1 with ⟨e2,h2⟩ | ⟨e2,h2⟩ | ⟨e2,h2⟩ <;> rw [e1,e2] <;> simp <;> omega
def Sv (x y:ay×Int):Int:=O9 [jT x.1.1 x.1.2 y.1.1 y.1.2,Lib.compareInt x.2 y.2]
theorem En (x y:ay×Int):(Sv x y=-1∧FT x y)∨(Sv x y=0∧x=y)∨(Sv x y=1∧FT y x):=by
 obtain ⟨⟨a0,a1⟩,a2⟩:=x
 obtain ⟨⟨b0,b1⟩,b2⟩:=y
 unfold Sv FT
 simp only
 rcases aaH a0 a1 b0 b1 with ⟨e1,h1⟩ | ⟨e1,h1⟩ | ⟨e1,h1⟩
 ·left;rw [e1];exact ⟨rfl,.inl h1⟩
 ·obtain ⟨rfl,rfl⟩:a0=b0∧a1=b1:=by simpa using h1
  rcases EH a2 b2 with ⟨e2,h2⟩ | ⟨e2,h2⟩ | ⟨e2,h2⟩
  ·left;rw [e1,e2];exact ⟨rfl,.inr ⟨rfl,h2⟩⟩
  ·right;left;subst h2;rw [e1,e2];exact ⟨rfl,rfl⟩
  ·right;right;rw [e1,e2];exact ⟨rfl,.inr ⟨rfl,h2⟩⟩
 ·right;right;rw [e1];exact ⟨rfl,.inl h1⟩
theorem OZ (x y:ay×Int):Sv x y<0↔FT x y:=by
 rcases En x y with ⟨e,h⟩ | ⟨e,h⟩ | ⟨e,h⟩ <;> rw [e]
 ·simp [h]
 ·subst h;simp [kF]
 ·constructor
  ·intro h2;omega
  ·intro h2;exact absurd (sF h h2) kF
theorem IG (x y:ay×Int):Sv x y=0↔x=y:=by
 rcases En x y with ⟨e,h⟩ | ⟨e,h⟩ | ⟨e,h⟩ <;> rw [e]
 ·constructor
  ·intro h2;omega
  ·intro h2;subst h2;exact absurd h kF
 ·simp [h]
 ·constructor
  ·intro h2;omega
  ·intro h2;subst h2;exact absurd h kF
theorem Vk {x0 x1 x2:Int}{x3:ByteArray}{x4 x5 x6 x7 x8 x9 x10 aS aV:Int}{L:List Int}{a:Option Addr}{c:Nat}{y0 y1 y2:Int}{y3:ByteArray}{y4 y5 y6 y7 y8 y9 Ms JG RS:Int}{M:List Int}{b:Option Addr}{d:Nat}{W:World} :
 Calls Tryz.prog 262 #[.agg #[.int .i64 x0,.int .i64 x1,.int .i64 x2,.string x3,.int .i64 x4,.int .i64 x5,.int .i64 x6,.int .i64 x7,.int .i64 x8,.int .i64 x9,.int .i64 x10,.int .i64 aS,.int .i64 aV,.slice a L.length c],.agg #[.int .i64 y0,.int .i64 y1,.int .i64 y2,.string y3,.int .i64 y4,.int .i64 y5,.int .i64 y6,.int .i64 y7,.int .i64 y8,.int .i64 y9,.int .i64 Ms,.int .i64 JG,.int .i64 RS,.slice b M.length d]] W fun e w'=>e=.returned (.int .i64 (Sv ((x0,x1),x2) ((y0,y1),y2)))∧Below W.heap.size W w':=by
 obtain ⟨V0,xw⟩:∃ V0,V0=((W.alloc (.cells #[.int .i64 x0,.int .i64 x1,.int .i64 x2,.string x3,.int .i64 x4,.int .i64 x5,.int .i64 x6,.int .i64 x7,.int .i64 x8,.int .i64 x9,.int .i64 x10,.int .i64 aS,.int .i64 aV,.slice a L.length c] 72)).alloc (.cells #[.int .i64 y0,.int .i64 y1,.int .i64 y2,.string y3,.int .i64 y4,.int .i64 y5,.int .i64 y6,.int .i64 y7,.int .i64 y8,.int .i64 y9,.int .i64 Ms,.int .i64 JG,.int .i64 RS,.slice b M.length d] 72)):=⟨_,rfl⟩
 have HB0:=ak (show Below W.heap.size W V0 from by rw [xw];exact ((aW _ _).alloc (bK _) _).alloc (by simp) _)
 have BA:=ak (show aO V0 W.heap.size 72 #[.int .i64 x0,.int .i64 x1,.int .i64 x2,.string x3,.int .i64 x4,.int .i64 x5,.int .i64 x6,.int .i64 x7,.int .i64 x8,.int .i64 x9,.int .i64 x10,.int .i64 aS,.int .i64 aV,.slice a L.length c] from by rw [xw];exact (aO.new W _ _).alloc _)
 have BB:=ak (show aO V0 (W.heap.size+1) 72 #[.int .i64 y0,.int .i64 y1,.int .i64 y2,.string y3,.int .i64 y4,.int .i64 y5,.int .i64 y6,.int .i64 y7,.int .i64 y8,.int .i64 y9,.int .i64 Ms,.int .i64 JG,.int .i64 RS,.slice b M.length d] from by
  have h9:=aO.new (W.alloc (.cells #[.int .i64 x0,.int .i64 x1,.int .i64 x2,.string x3,.int .i64 x4,.int .i64 x5,.int .i64 x6,.int .i64 x7,.int .i64 x8,.int .i64 x9,.int .i64 x10,.int .i64 aS,.int .i64 aV,.slice a L.length c] 72)) 72 #[.int .i64 y0,.int .i64 y1,.int .i64 y2,.string y3,.int .i64 y4,.int .i64 y5,.int .i64 y6,.int .i64 y7,.int .i64 y8,.int .i64 y9,.int .i64 Ms,.int .i64 JG,.int .i64 RS,.slice b M.length d]
  simp only [World.size_alloc] at h9
  rw [xw];exact h9)
 go_enter Tryz.func262,Tryz.ntmps262
 go_wp2_with fail
 rw [←xw]
 clear xw
 refine dX (S:=(fun V=>Below (V0).heap.size (V0) V)) (by kernel_rfl) ((aW _ _).drew) (fun ah=>?_)
 refine tk 0 ah ?_
 refine tk 1 ah ?_ (hy:=fun w aj=>by (try dsimp only at aj);have k0:=BA.out.hat aj 0 rfl;have k1:=BA.out.hat aj 1 rfl;clear aj;go_simp;try with_reducible rfl)
 refine tk 2 ah ?_
 refine tk 3 ah ?_ (hy:=fun w aj=>by (try dsimp only at aj);have k0:=BB.out.hat aj 0 rfl;have k1:=BB.out.hat aj 1 rfl;clear aj;go_simp;try with_reducible rfl)
 refine tk 5 ah ?_
 refine tk 6 ah ?_ (hy:=fun w aj=>by (try dsimp only at aj);have k0:=BA.out.hat aj 2 rfl;clear aj;go_simp;try with_reducible rfl)
 refine tk 7 ah ?_
 refine tk 8 ah ?_ (hy:=fun w aj=>by (try dsimp only at aj);have k0:=BB.out.hat aj 2 rfl;clear aj;go_simp;try with_reducible rfl)
 refine dw 4 (fun K hK=>?_)
 go_simp
 go_at_call 230
 refine (O5 x0 x1 y0 y1 _).mono ?_
 rintro e w1 ⟨rfl,hb⟩
 refine hK.out _ _ (ah.trans (hb.mono ah.size)) (fun ah=>?_)
 clear hK K hb
 refine dw 9 (fun K hK=>?_)
 go_simp
 go_at_call 255
 refine (Ul x2 y2 _).mono ?_
 rintro e w2 ⟨rfl,rfl⟩
 have hb:=aW w2.heap.size w2
 refine hK.out _ _ (ah.trans (hb.mono ah.size)) (fun ah=>?_)
 clear hK K hb
 refine dw 10 (fun K hK=>?_)
 go_simp
 have hb:=(aW w2.heap.size w2).alloc (bK _) (.cells #[.int .i64 (jT x0 x1 y0 y1),.int .i64 (Lib.compareInt x2 y2)] 3)
 have Dn:=ak (aO.new w2 3 #[.int .i64 (jT x0 x1 y0 y1),.int .i64 (Lib.compareInt x2 y2)])
 refine hK.out _ _ (ah.trans (hb.mono ah.size)) (fun ah=>?_)
 clear hK K hb
 refine dw 11 (fun K hK=>?_)
 go_simp
 go_at_call 241
 refine (T9 _ _ _ _ Dn.out).mono ?_
 rintro e w3 ⟨rfl,rfl⟩
 have hb:=aW (w2.alloc (.cells #[.int .i64 (jT x0 x1 y0 y1),.int .i64 (Lib.compareInt x2 y2)] 3)).heap.size (w2.alloc (.cells #[.int .i64 (jT x0 x1 y0 y1),.int .i64 (Lib.compareInt x2 y2)] 3))
 refine hK.out _ _ (ah.trans (hb.mono ah.size)) (fun ah=>?_)
 clear hK K hb
 refine tk 12 ah ?_
 refine dQ ?_
 have HF:=ak ah
 clear ah
 have HB1:=ak (HB0.out.trans (HF.out.mono HB0.out.size))
 go_wp2
 go_ret
 exact ⟨rfl,HB1.out⟩
abbrev tgt (y0 y1 y2:Int):Value:=.agg #[.int .i64 y0,.int .i64 y1,.int .i64 y2,.string ⟨#[]⟩,.int .i64 0,.int .i64 0,.int .i64 0,.int .i64 0,.int .i64 0,.int .i64 0,.int .i64 0,.int .i64 0,.int .i64 0,.slice none 0 0]
def Cut (L:List aF)(a:ay×Int)(lo hi:Nat):Prop:=(∀ i x,i<lo→L[i]? = some x→FT (nk x) a)∧(∀ i x,hi≤i→L[i]? = some x→¬FT (nk x) a)
theorem ab3 {L:List aF}{a:ay×Int}{lo hi m:Nat}{x:aF}(h:Cut L a lo hi)(hi':qN L L.length)(hx:L[m]? = some x)(hk:FT (nk x) a):Cut L a (m+1) hi:=⟨fun i y hi1 hy=>by
 by_cases e:i=m
 ·subst e;rw [hx] at hy;cases hy;exact hk
 ·exact sF (hi' i m y x (by omega) (List.getElem?_eq_some_iff.1 hx).1 hy hx) hk,h.2⟩
theorem ab4 {L:List aF}{a:ay×Int}{lo hi m:Nat}{x:aF}(h:Cut L a lo hi)(hi':qN L L.length)(hx:L[m]? = some x)(hk:¬FT (nk x) a):Cut L a lo m:=⟨h.1,fun i y hi1 hy hl=>by
 by_cases e:i=m
 ·subst e;rw [hx] at hy;cases hy;exact hk hl
 ·exact hk (sF (hi' m i x y (by omega) (List.getElem?_eq_some_iff.1 hy).1 hx hy) hl)⟩
theorem aac {L:List aF}{a:ay×Int}{k:Nat}{x:aF}(h:Cut L a k k)(hx:L[k]? = some x)(hk:nk x=a):vF L a=(k:Int):=
 O6 (fun i y hi hy he=>by have:=h.1 i y hi hy;rw [he] at this;exact kF this) hx hk
theorem Iw {L:List aF}{a:ay×Int}{k:Nat}(h:Cut L a k k)(hi':qN L L.length)(hk:∀ x,L[k]? = some x→nk x≠a):vF L a=-1:=
 IK fun i y hi hy he=>by
  rcases Nat.lt_trichotomy i k with h1 | h1 | h1
  ·have:=h.1 i y h1 hy;rw [he] at this;exact kF this
  ·subst h1;exact hk y hy he
  ·obtain ⟨x,hx⟩:∃ x,L[k]? = some x:=⟨L[k],List.getElem?_eq_getElem (by omega)⟩
   have:=hi' k i x y h1 hi hx hy
   rw [he] at this
   exact h.2 k x (bK _) hx this
theorem ad2 {L:List aF}{a:Option Addr}{cap:Nat}{y0 y1 y2:Int}{W:World}(hn:L.length≤1048576)(hI:qN L L.length)(h:aJ aI W W.heap.size L a cap) :
 Calls Tryz.prog 261 #[.slice a L.length cap,tgt y0 y1 y2,.func (.func 262) #[] #[]] W fun e w'=>(∃ k:Nat,∃ b:Bool,e=.returned (.tuple #[.int .i64 k,.bool b])∧(b=true→vF L ((y0,y1),y2)=(k:Int))∧(b=false→vF L ((y0,y1),y2)=-1)∧Cut L ((y0,y1),y2) k k)∧Below W.heap.size W w':=by
 have H:=ak h
 have HI:=ak hI
 clear h hI
 obtain ⟨wo,hwo⟩:∃ w,w=W.alloc (.cells #[.int .i64 y0,.int .i64 y1,.int .i64 y2,.string ⟨#[]⟩,.int .i64 0,.int .i64 0,.int .i64 0,.int .i64 0,.int .i64 0,.int .i64 0,.int .i64 0,.int .i64 0,.int .i64 0,.slice none 0 0] 72):=⟨_,rfl⟩
 have HB0:=ak (show Below W.heap.size W wo from by rw [hwo];exact (aW _ _).alloc (bK _) _)
 have gY:=ak (show aO wo W.heap.size 72 #[.int .i64 y0,.int .i64 y1,.int .i64 y2,.string ⟨#[]⟩,.int .i64 0,.int .i64 0,.int .i64 0,.int .i64 0,.int .i64 0,.int .i64 0,.int .i64 0,.int .i64 0,.int .i64 0,.slice none 0 0] from by rw [hwo];exact aO.new _ _ _)
 have eg:∀ args w,(callFunc 262 args).run Tryz.prog w=.ok (.enter 262 args) w:=fun _ _=>rfl
 have HCT:=ak (⟨fun i x hi=>absurd hi (gZ _),fun i x hi hx=>absurd (List.getElem?_eq_some_iff.1 hx).1 (by omega)⟩:Cut L ((y0,y1),y2) 0 L.length)
 go_enter Tryz.func261,Tryz.ntmps261
 go_wp2_with fail
 rw [←hwo]
 clear hwo
 go_loopw [9,10] (fun s9 s10 wr=>∃ lo hi:Nat,s9=.int .i64 lo∧s10=.int .i64 hi∧lo≤hi∧hi≤L.length∧Hid (Cut L ((y0,y1),y2) lo hi)∧Below wo.heap.size wo wr) (fun s9 s10 _=>(intOf s10).toNat-(intOf s9).toNat)
 case atStart=>exact ⟨0,L.length,rfl,rfl,dV _,bK _,HCT,aW _ _⟩
 case round=>
  obtain ⟨lo,hi,rfl,rfl,hlh,hin,HC,hB⟩:=hrel
  have HB:=ak (HB0.out.trans (hB.mono HB0.out.size))
  have HP:=ak (gY.out.call hB)
  have hszW:=HB.out.size
  have hB0:=ak hB
  clear hB
  by_cases hlt:lo<hi
  ·obtain ⟨m,hm⟩:∃ m,m=(lo+hi) / 2:=⟨_,rfl⟩
   have hm1:lo≤m:=by omega
   have hm2:m<hi:=by omega
   have hmid:((lo:Int)+(hi:Int)) / 2=(m:Int):=by omega
   clear hm
   obtain ⟨⟨⟨x0,x1⟩,x2,x3,x4,x5,x6,⟨x7,x8⟩,x9,x10,aS,aV,M⟩,hx⟩:=aM (show m<L.length by omega)
   have HX:=ak hx
   obtain ⟨g,o,us,rfl,hg,hu,hr⟩:=(H.out.below aA HB.out).at_ hx
   obtain ⟨ba,bc,rfl,sP,fH⟩:=fA hr
   obtain ⟨e0,e1,e2,e3,e4,e5,e6,e7,e8,e9,e10,e11,e12,e13⟩:=kY (a:=o+m*14) hu rfl
   have hi0:(0:Int)≤(m:Int):=eu _
   have hi1:(m:Int)<(L.length:Int):=by omega
   have hgl:g<wr.heap.size:=bV hg hszW
   have hC:=fun V=>Vk (x0:=x0) (x1:=x1) (x2:=x2) (x3:=x3) (x4:=x4) (x5:=x5) (x6:=x6) (x7:=x7) (x8:=x8) (x9:=x9) (x10:=x10) (aS:=aS) (aV:=aV) (L:=M) (a:=ba) (c:=bc) (y0:=y0) (y1:=y1) (y2:=y2) (y3:=⟨#[]⟩) (y4:=0) (y5:=0) (y6:=0) (y7:=0) (y8:=0) (y9:=0) (Ms:=0) (JG:=0) (RS:=0) (M:=[]) (b:=none) (d:=0) (W:=V)
   obtain ⟨r,MC⟩:∃ r,Sv ((x0,x1),x2) ((y0,y1),y2)=r:=⟨_,rfl⟩
   rw [MC] at hC
   clear hu hr hg hx sP
   by_cases hneg:r<0
   ·have HC2:=ak (ab3 HC.out HI.out HX.out ((OZ _ _).1 (by show Sv ((x0,x1),x2) _<0;rw [MC];exact hneg)))
    have hd:decide (r<0)=true:=eD hneg
    clear MC
    go_wp2_with fail
    refine dX (S:=(fun V=>Below (wr).heap.size (wr) V)) (by kernel_rfl) ((aW _ _).drew) (fun ah=>?_)
    refine tk 0 ah ?_
    refine tk 1 ah ?_
    refine tk 2 ah ?_
    refine tk 3 ah ?_
    refine tk 4 ah ?_ (hy:=fun w aj=>by (try dsimp only at aj);have k0:=(aj.cell (p:=⟨g,o+m*14,none⟩) hgl).trans e0;have k1:=(aj.cell (p:=⟨g,o+m*14+1,none⟩) hgl).trans e1;have k2:=(aj.cell (p:=⟨g,o+m*14+2,none⟩) hgl).trans e2;have k3:=(aj.cell (p:=⟨g,o+m*14+3,none⟩) hgl).trans e3;have k4:=(aj.cell (p:=⟨g,o+m*14+4,none⟩) hgl).trans e4;have k5:=(aj.cell (p:=⟨g,o+m*14+5,none⟩) hgl).trans e5;have k6:=(aj.cell (p:=⟨g,o+m*14+6,none⟩) hgl).trans e6;have k7:=(aj.cell (p:=⟨g,o+m*14+7,none⟩) hgl).trans e7;have k8:=(aj.cell (p:=⟨g,o+m*14+8,none⟩) hgl).trans e8;have k9:=(aj.cell (p:=⟨g,o+m*14+9,none⟩) hgl).trans e9;have k10:=(aj.cell (p:=⟨g,o+m*14+10,none⟩) hgl).trans e10;have k11:=(aj.cell (p:=⟨g,o+m*14+11,none⟩) hgl).trans e11;have k12:=(aj.cell (p:=⟨g,o+m*14+12,none⟩) hgl).trans e12;have k13:=(aj.cell (p:=⟨g,o+m*14+13,none⟩) hgl).trans e13;clear aj;go_simp;try with_reducible rfl)
    refine tk 5 ah ?_ (hy:=fun w aj=>by (try dsimp only at aj);have k0:=HP.out.hat aj 0 rfl;have k1:=HP.out.hat aj 1 rfl;have k2:=HP.out.hat aj 2 rfl;have k3:=HP.out.hat aj 3 rfl;have k4:=HP.out.hat aj 4 rfl;have k5:=HP.out.hat aj 5 rfl;have k6:=HP.out.hat aj 6 rfl;have k7:=HP.out.hat aj 7 rfl;have k8:=HP.out.hat aj 8 rfl;have k9:=HP.out.hat aj 9 rfl;have k10:=HP.out.hat aj 10 rfl;have k11:=HP.out.hat aj 11 rfl;have k12:=HP.out.hat aj 12 rfl;have k13:=HP.out.hat aj 13 rfl;clear aj;go_simp;try with_reducible rfl)
    refine dw 6 (fun K hK=>?_)
    go_simp
    go_at_fn 262
    refine (hC _).mono ?_
    rintro e w9 ⟨rfl,hb⟩
    refine hK.out _ _ (ah.trans (hb.mono ah.size)) (fun ah=>?_)
    clear hK K hb
    refine tk 7 ah ?_
    refine dQ ?_
    have HF:=ak ah
    clear ah
    have HB2:=ak (HB.out.trans (HF.out.mono hszW))
    have HB3:=ak (hB0.out.trans (HF.out.mono hB0.out.size))
    go_wp2
    go_roundw
    case rel=>exact ⟨m+1,hi,by go_num,rfl,by omega,hin,HC2,HB3.out⟩
    case measure=>simp [intOf];omega
   ·have HC2:=ak (ab4 HC.out HI.out HX.out (fun h=>hneg (by have:=(OZ _ _).2 h;rw [←MC];exact this)))
    have hd:decide (r<0)=false:=dS hneg
    clear MC
    go_wp2_with fail
    refine dX (S:=(fun V=>Below (wr).heap.size (wr) V)) (by kernel_rfl) ((aW _ _).drew) (fun ah=>?_)
    refine tk 0 ah ?_
    refine tk 1 ah ?_
    refine tk 2 ah ?_
    refine tk 3 ah ?_
    refine tk 4 ah ?_ (hy:=fun w aj=>by (try dsimp only at aj);have k0:=(aj.cell (p:=⟨g,o+m*14,none⟩) hgl).trans e0;have k1:=(aj.cell (p:=⟨g,o+m*14+1,none⟩) hgl).trans e1;have k2:=(aj.cell (p:=⟨g,o+m*14+2,none⟩) hgl).trans e2;have k3:=(aj.cell (p:=⟨g,o+m*14+3,none⟩) hgl).trans e3;have k4:=(aj.cell (p:=⟨g,o+m*14+4,none⟩) hgl).trans e4;have k5:=(aj.cell (p:=⟨g,o+m*14+5,none⟩) hgl).trans e5;have k6:=(aj.cell (p:=⟨g,o+m*14+6,none⟩) hgl).trans e6;have k7:=(aj.cell (p:=⟨g,o+m*14+7,none⟩) hgl).trans e7;have k8:=(aj.cell (p:=⟨g,o+m*14+8,none⟩) hgl).trans e8;have k9:=(aj.cell (p:=⟨g,o+m*14+9,none⟩) hgl).trans e9;have k10:=(aj.cell (p:=⟨g,o+m*14+10,none⟩) hgl).trans e10;have k11:=(aj.cell (p:=⟨g,o+m*14+11,none⟩) hgl).trans e11;have k12:=(aj.cell (p:=⟨g,o+m*14+12,none⟩) hgl).trans e12;have k13:=(aj.cell (p:=⟨g,o+m*14+13,none⟩) hgl).trans e13;clear aj;go_simp;try with_reducible rfl)
    refine tk 5 ah ?_ (hy:=fun w aj=>by (try dsimp only at aj);have k0:=HP.out.hat aj 0 rfl;have k1:=HP.out.hat aj 1 rfl;have k2:=HP.out.hat aj 2 rfl;have k3:=HP.out.hat aj 3 rfl;have k4:=HP.out.hat aj 4 rfl;have k5:=HP.out.hat aj 5 rfl;have k6:=HP.out.hat aj 6 rfl;have k7:=HP.out.hat aj 7 rfl;have k8:=HP.out.hat aj 8 rfl;have k9:=HP.out.hat aj 9 rfl;have k10:=HP.out.hat aj 10 rfl;have k11:=HP.out.hat aj 11 rfl;have k12:=HP.out.hat aj 12 rfl;have k13:=HP.out.hat aj 13 rfl;clear aj;go_simp;try with_reducible rfl)
    refine dw 6 (fun K hK=>?_)
    go_simp
    go_at_fn 262
    refine (hC _).mono ?_
    rintro e w9 ⟨rfl,hb⟩
    refine hK.out _ _ (ah.trans (hb.mono ah.size)) (fun ah=>?_)
    clear hK K hb
    refine tk 7 ah ?_
    refine dQ ?_
    have HF:=ak ah
    clear ah
    have HB2:=ak (HB.out.trans (HF.out.mono hszW))
    have HB3:=ak (hB0.out.trans (HF.out.mono hB0.out.size))
    go_wp2
    go_roundw
    case rel=>exact ⟨lo,m,rfl,by go_num,by omega,by omega,HC2,HB3.out⟩
    case measure=>simp [intOf];omega
  ·obtain rfl:lo=hi:=by omega
   have hdl:decide ((lo:Int)<(lo:Int))=false:=by simp
   by_cases hlen:lo<L.length
   ·obtain ⟨⟨⟨x0,x1⟩,x2,x3,x4,x5,x6,⟨x7,x8⟩,x9,x10,aS,aV,M⟩,hx⟩:=aM hlen
    have HX:=ak hx
    obtain ⟨g,o,us,rfl,hg,hu,hr⟩:=(H.out.below aA HB.out).at_ hx
    obtain ⟨ba,bc,rfl,sP,fH⟩:=fA hr
    obtain ⟨e0,e1,e2,e3,e4,e5,e6,e7,e8,e9,e10,e11,e12,e13⟩:=kY (a:=o+lo*14) hu rfl
    have hi0:(0:Int)≤(lo:Int):=eu _
    have hi1:(lo:Int)<(L.length:Int):=by omega
    have hdn:decide ((lo:Int)<(L.length:Int))=true:=eD hi1
    have hgl:g<wr.heap.size:=bV hg hszW
    have hC:=fun V=>Vk (x0:=x0) (x1:=x1) (x2:=x2) (x3:=x3) (x4:=x4) (x5:=x5) (x6:=x6) (x7:=x7) (x8:=x8) (x9:=x9) (x10:=x10) (aS:=aS) (aV:=aV) (L:=M) (a:=ba) (c:=bc) (y0:=y0) (y1:=y1) (y2:=y2) (y3:=⟨#[]⟩) (y4:=0) (y5:=0) (y6:=0) (y7:=0) (y8:=0) (y9:=0) (Ms:=0) (JG:=0) (RS:=0) (M:=[]) (b:=none) (d:=0) (W:=V)
    obtain ⟨r,MC⟩:∃ r,Sv ((x0,x1),x2) ((y0,y1),y2)=r:=⟨_,rfl⟩
    rw [MC] at hC
    have HR9:=ak MC
    clear hu hr hg hx sP MC
    obtain ⟨q,hq⟩:∃ q,(r==0)=q:=⟨_,rfl⟩
    have HT:=ak (show q=true→vF L ((y0,y1),y2)=(lo:Int) from fun h=>aac HC.out HX.out ((IG _ _).1 (HR9.out.trans (eq_of_beq (hq.trans h)))))
    have HM:=ak (show q=false→vF L ((y0,y1),y2)=-1 from fun h=>Iw HC.out HI.out fun x hx he=>by
     obtain rfl:=fC (HX.out.symm.trans hx)
     have h2:Sv ((x0,x1),x2) ((y0,y1),y2)=0:=(IG _ _).2 he
     have h3:r=0:=HR9.out.symm.trans h2
     rw [←hq,h3] at h
     cases h)
    go_wp2_with fail
    refine dX (S:=(fun V=>Below (wr).heap.size (wr) V)) (by kernel_rfl) ((aW _ _).drew) (fun ah=>?_)
    refine tk 0 ah ?_
    refine tk 1 ah ?_
    refine tk 2 ah ?_
    refine tk 3 ah ?_
    refine tk 4 ah ?_
    refine tk 5 ah ?_
    refine tk 6 ah ?_
    refine tk 7 ah ?_
    refine tk 8 ah ?_
    refine tk 9 ah ?_ (hy:=fun w aj=>by (try dsimp only at aj);have k0:=(aj.cell (p:=⟨g,o+lo*14,none⟩) hgl).trans e0;have k1:=(aj.cell (p:=⟨g,o+lo*14+1,none⟩) hgl).trans e1;have k2:=(aj.cell (p:=⟨g,o+lo*14+2,none⟩) hgl).trans e2;have k3:=(aj.cell (p:=⟨g,o+lo*14+3,none⟩) hgl).trans e3;have k4:=(aj.cell (p:=⟨g,o+lo*14+4,none⟩) hgl).trans e4;have k5:=(aj.cell (p:=⟨g,o+lo*14+5,none⟩) hgl).trans e5;have k6:=(aj.cell (p:=⟨g,o+lo*14+6,none⟩) hgl).trans e6;have k7:=(aj.cell (p:=⟨g,o+lo*14+7,none⟩) hgl).trans e7;have k8:=(aj.cell (p:=⟨g,o+lo*14+8,none⟩) hgl).trans e8;have k9:=(aj.cell (p:=⟨g,o+lo*14+9,none⟩) hgl).trans e9;have k10:=(aj.cell (p:=⟨g,o+lo*14+10,none⟩) hgl).trans e10;have k11:=(aj.cell (p:=⟨g,o+lo*14+11,none⟩) hgl).trans e11;have k12:=(aj.cell (p:=⟨g,o+lo*14+12,none⟩) hgl).trans e12;have k13:=(aj.cell (p:=⟨g,o+lo*14+13,none⟩) hgl).trans e13;clear aj;go_simp;try with_reducible rfl)
    refine tk 10 ah ?_ (hy:=fun w aj=>by (try dsimp only at aj);have k0:=HP.out.hat aj 0 rfl;have k1:=HP.out.hat aj 1 rfl;have k2:=HP.out.hat aj 2 rfl;have k3:=HP.out.hat aj 3 rfl;have k4:=HP.out.hat aj 4 rfl;have k5:=HP.out.hat aj 5 rfl;have k6:=HP.out.hat aj 6 rfl;have k7:=HP.out.hat aj 7 rfl;have k8:=HP.out.hat aj 8 rfl;have k9:=HP.out.hat aj 9 rfl;have k10:=HP.out.hat aj 10 rfl;have k11:=HP.out.hat aj 11 rfl;have k12:=HP.out.hat aj 12 rfl;have k13:=HP.out.hat aj 13 rfl;clear aj;go_simp;try with_reducible rfl)
    refine dw 11 (fun K hK=>?_)
    go_simp
    go_at_fn 262
    refine (hC _).mono ?_
    rintro e w9 ⟨rfl,hb⟩
    refine hK.out _ _ (ah.trans (hb.mono ah.size)) (fun ah=>?_)
    clear hK K hb
    refine tk 12 ah ?_
    refine tk 13 ah ?_
    refine tk 14 ah ?_
    refine tk 15 ah ?_
    refine dQ ?_
    have HF:=ak ah
    clear ah
    have HB2:=ak (HB.out.trans (HF.out.mono hszW))
    go_wp2
    go_ret2
    exact ⟨⟨lo,q,rfl,HT.out,HM.out,HC.out⟩,HB2.out⟩
   ·have hdn:decide ((lo:Int)<(L.length:Int))=false:=dS (by omega)
    have HM:=ak (Iw HC.out HI.out fun x hx=>absurd (List.getElem?_eq_some_iff.1 hx).1 hlen)
    go_wp2_with fail
    go_quiet (fail)
    all_goals
     go_wp2
     go_ret2
     exact ⟨⟨lo,false,rfl,fun h=>(by cases h),fun _=>HM.out,HC.out⟩,by first | exact HB.out | exact HB.out.drew | exact fD HB.out _⟩
theorem Cn {L:List aF}{a:Option Addr}{cap:Nat}{y0 y1 y2:Int}{W:World}(hn:L.length≤1048576)(hI:qN L L.length)(h:aJ aI W W.heap.size L a cap) :
 Calls Tryz.prog 238 #[.slice a L.length cap,.agg #[.int .i64 y0,.int .i64 y1],.int .i64 y2] W fun e w'=>(∃ k:Nat,∃ b:Bool,e=.returned (.tuple #[.int .i64 k,.bool b])∧(b=true→vF L ((y0,y1),y2)=(k:Int))∧(b=false→vF L ((y0,y1),y2)=-1)∧Cut L ((y0,y1),y2) k k)∧Below W.heap.size W w':=by
 have H:=ak h
 have HI:=ak hI
 clear h hI
 obtain ⟨wo,hwo⟩:∃ w,w=W.alloc (.cells #[.int .i64 y0,.int .i64 y1] 49):=⟨_,rfl⟩
 have HB0:=ak (show Below W.heap.size W wo from by rw [hwo];exact (aW _ _).alloc (bK _) _)
 have HA:=ak ((H.out.below aA HB0.out).more aA HB0.out.size)
 go_enter Tryz.func238,Tryz.ntmps238
 go_wp2_with fail
 rw [←hwo]
 clear hwo
 refine (ad2 hn HI.out HA.out).mono ?_
 rintro e w1 ⟨⟨k,b,rfl,h1⟩,hb⟩
 have HB:=ak (HB0.out.trans (hb.mono HB0.out.size))
 have H1:=ak h1
 clear hb h1
 go_wp2
 go_ret2
 exact ⟨⟨k,b,rfl,H1.out⟩,HB.out⟩
theorem IW {L:List aF}{a:Option Addr}{cap:Nat}{y0 y1 y2:Int}{W:World}(hn:L.length≤1048576)(hI:qN L L.length)(h:aJ aI W W.heap.size L a cap) :
 Calls Tryz.prog 195 #[.slice a L.length cap,.agg #[.int .i64 y0,.int .i64 y1],.int .i64 y2] W fun e w'=>e=.returned (.int .i64 (vF L ((y0,y1),y2)))∧Below W.heap.size W w':=by
 have H:=ak h
 have HI:=ak hI
 clear h hI
 obtain ⟨wo,hwo⟩:∃ w,w=W.alloc (.cells #[.int .i64 y0,.int .i64 y1] 49):=⟨_,rfl⟩
 have HB0:=ak (show Below W.heap.size W wo from by rw [hwo];exact (aW _ _).alloc (bK _) _)
 have HA:=ak ((H.out.below aA HB0.out).more aA HB0.out.size)
 go_enter Tryz.func195,Tryz.ntmps195
 go_wp2_with fail
 rw [←hwo]
 clear hwo
 refine (Cn hn HI.out HA.out).mono ?_
 rintro e w1 ⟨⟨k,b,rfl,h1,h2,_⟩,hb⟩
 have HB:=ak (HB0.out.trans (hb.mono HB0.out.size))
 have H1:=ak h1
 have H2:=ak h2
 clear hb h1 h2
 cases b with
 | true=>
  have HE:=ak (H1.out rfl)
  go_wp2
  go_ret
  exact ⟨by rw [HE.out];rfl,HB.out⟩
 | false=>
  have HE:=ak (H2.out rfl)
  go_wp2
  go_ret
  exact ⟨by rw [HE.out];rfl,HB.out⟩
end
end aQ
end Go.Proofs.YtlhfiapfncikdaaGreatDoor
