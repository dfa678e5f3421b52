import Derived.Test.YtlhfiapfncikdaaGreatDoorPU17
import Derived.Test.YtlhfiapfncikdaaGreatDoorPU18
set_option linter.unusedVariables false
set_option linter.unusedSimpArgs false
set_option maxRecDepth 100000
set_option maxHeartbeats 3200000
namespace Go.Proofs.YtlhfiapfncikdaaGreatDoor.aP
section
open Go.RowKit bN bP bJ bM fT gy
theorem OC (a0 a1 b0 b1:Int)(V:World):Calls Tryz.prog 230 #[.agg #[.int .i64 a0,.int .i64 a1],.agg #[.int .i64 b0,.int .i64 b1]] V fun e w'=>e=.returned (.int .i64 (jV a0 a1 b0 b1))∧Below V.heap.size V w':=
 (zJ a0 a1 b0 b1 V).mono fun e w' ⟨h1,h2⟩=>⟨h1,by rw [h2];exact (((aU V.heap.size V).alloc (bK _) _).alloc (by simp) _).drew.alloc (by simp;omega) _⟩
theorem aat (a0 a1 b0 b1:Int):(jV a0 a1 b0 b1=-1∧j3 (a0,a1) (b0,b1))∨(jV a0 a1 b0 b1=0∧((a0,a1):Int×Int)=(b0,b1))∨(jV a0 a1 b0 b1=1∧j3 (b0,b1) (a0,a1)):=by
 unfold jV OG j3
 rcases EA a0 b0 with ⟨e1,h1⟩ | ⟨e1,h1⟩ | ⟨e1,h1⟩ <;> rcases EA a1 b1 with ⟨e2,h2⟩ | ⟨e2,h2⟩ | ⟨e2,h2⟩ <;> rw [e1,e2] <;> simp <;> omega
def RZ (x y:av×Int):Int:=OG [jV x.1.1 x.1.2 y.1.1 y.1.2,Lib.compareInt x.2 y.2]
theorem Ee (x y:av×Int):(RZ x y=-1∧FI x y)∨(RZ x y=0∧x=y)∨(RZ x y=1∧FI y x):=by
 obtain ⟨⟨a0,a1⟩,a2⟩:=x
 obtain ⟨⟨b0,b1⟩,b2⟩:=y
 unfold RZ FI
 simp only
 rcases aat a0 a1 b0 b1 with ⟨e1,h1⟩ | ⟨e1,h1⟩ | ⟨e1,h1⟩
 ·left;rw [e1];exact ⟨rfl,.inl h1⟩
 ·obtain ⟨rfl,rfl⟩:a0=b0∧a1=b1:=by simpa using h1
  rcases EA a2 b2 with ⟨e2,h2⟩ | ⟨e2,h2⟩ | ⟨e2,h2⟩
  ·left;rw [e1,e2];exact ⟨rfl,.inr ⟨rfl,h2⟩⟩
  ·right;left;subst h2;rw [e1,e2];exact ⟨rfl,rfl⟩
  ·right;right;rw [e1,e2];exact ⟨rfl,.inr ⟨rfl,h2⟩⟩
 ·right;right;rw [e1];exact ⟨rfl,.inl h1⟩
theorem Oz (x y:av×Int):RZ x y<0↔FI x y:=by
 rcases Ee x y with ⟨e,h⟩ | ⟨e,h⟩ | ⟨e,h⟩ <;> rw [e]
 ·simp [h]
 ·subst h;simp [kH]
 ·constructor
  ·intro h2;omega
  ·intro h2;exact absurd (rW h h2) kH
theorem Ik (x y:av×Int):RZ x y=0↔x=y:=by
 rcases Ee x y with ⟨e,h⟩ | ⟨e,h⟩ | ⟨e,h⟩ <;> rw [e]
 ·constructor
  ·intro h2;omega
  ·intro h2;subst h2;exact absurd h kH
 ·simp [h]
 ·constructor
  ·intro h2;omega
  ·intro h2;subst h2;exact absurd h kH
theorem U3 {x0 x1 x2:Int}{x3:ByteArray}{x4 x5 x6 x7 x8 x9 x10 aR aW:Int}{L:List Int}{a:Option Addr}{c:Nat}{y0 y1 y2:Int}{y3:ByteArray}{y4 y5 y6 y7 y8 y9 LX Js Rl:Int}{M:List Int}{b:Option Addr}{d:Nat}{W:World} :
 Calls Tryz.prog 262 #[.agg #[.int .i64 x0,.int .i64 x1,.int .i64 x2,.string x3,.int .i64 x4,.int .i64 x5,.int .i64 x6,.int .i64 x7,.int .i64 x8,.int .i64 x9,.int .i64 x10,.int .i64 aR,.int .i64 aW,.slice a L.length c],.agg #[.int .i64 y0,.int .i64 y1,.int .i64 y2,.string y3,.int .i64 y4,.int .i64 y5,.int .i64 y6,.int .i64 y7,.int .i64 y8,.int .i64 y9,.int .i64 LX,.int .i64 Js,.int .i64 Rl,.slice b M.length d]] W fun e w'=>e=.returned (.int .i64 (RZ ((x0,x1),x2) ((y0,y1),y2)))∧Below W.heap.size W w':=by
 obtain ⟨V0,wS⟩:∃ V0,V0=((W.alloc (.cells #[.int .i64 x0,.int .i64 x1,.int .i64 x2,.string x3,.int .i64 x4,.int .i64 x5,.int .i64 x6,.int .i64 x7,.int .i64 x8,.int .i64 x9,.int .i64 x10,.int .i64 aR,.int .i64 aW,.slice a L.length c] 72)).alloc (.cells #[.int .i64 y0,.int .i64 y1,.int .i64 y2,.string y3,.int .i64 y4,.int .i64 y5,.int .i64 y6,.int .i64 y7,.int .i64 y8,.int .i64 y9,.int .i64 LX,.int .i64 Js,.int .i64 Rl,.slice b M.length d] 72)):=⟨_,rfl⟩
 have HB0:=aj (show Below W.heap.size W V0 from by rw [wS];exact ((aU _ _).alloc (bK _) _).alloc (by simp) _)
 have BA:=aj (show aN V0 W.heap.size 72 #[.int .i64 x0,.int .i64 x1,.int .i64 x2,.string x3,.int .i64 x4,.int .i64 x5,.int .i64 x6,.int .i64 x7,.int .i64 x8,.int .i64 x9,.int .i64 x10,.int .i64 aR,.int .i64 aW,.slice a L.length c] from by rw [wS];exact (aN.new W _ _).alloc _)
 have BB:=aj (show aN V0 (W.heap.size+1) 72 #[.int .i64 y0,.int .i64 y1,.int .i64 y2,.string y3,.int .i64 y4,.int .i64 y5,.int .i64 y6,.int .i64 y7,.int .i64 y8,.int .i64 y9,.int .i64 LX,.int .i64 Js,.int .i64 Rl,.slice b M.length d] from by
  have h9:=aN.new (W.alloc (.cells #[.int .i64 x0,.int .i64 x1,.int .i64 x2,.string x3,.int .i64 x4,.int .i64 x5,.int .i64 x6,.int .i64 x7,.int .i64 x8,.int .i64 x9,.int .i64 x10,.int .i64 aR,.int .i64 aW,.slice a L.length c] 72)) 72 #[.int .i64 y0,.int .i64 y1,.int .i64 y2,.string y3,.int .i64 y4,.int .i64 y5,.int .i64 y6,.int .i64 y7,.int .i64 y8,.int .i64 y9,.int .i64 LX,.int .i64 Js,.int .i64 Rl,.slice b M.length d]
  simp only [World.size_alloc] at h9
  rw [wS];exact h9)
 go_enter Tryz.func262,Tryz.ntmps262
 go_wp2_with fail
 rw [←wS]
 clear wS
 refine dW (S:=(fun V=>Below (V0).heap.size (V0) V)) (by kernel_rfl) ((aU _ _).drew) (fun ah=>?_)
 refine tk 0 ah ?_
 refine tk 1 ah ?_ (hy:=fun w hSw=>by (try dsimp only at hSw);have k0:=BA.out.hat hSw 0 rfl;have k1:=BA.out.hat hSw 1 rfl;clear hSw;go_simp;try with_reducible rfl)
 refine tk 2 ah ?_
 refine tk 3 ah ?_ (hy:=fun w hSw=>by (try dsimp only at hSw);have k0:=BB.out.hat hSw 0 rfl;have k1:=BB.out.hat hSw 1 rfl;clear hSw;go_simp;try with_reducible rfl)
 refine tk 5 ah ?_
 refine tk 6 ah ?_ (hy:=fun w hSw=>by (try dsimp only at hSw);have k0:=BA.out.hat hSw 2 rfl;clear hSw;go_simp;try with_reducible rfl)
 refine tk 7 ah ?_
 refine tk 8 ah ?_ (hy:=fun w hSw=>by (try dsimp only at hSw);have k0:=BB.out.hat hSw 2 rfl;clear hSw;go_simp;try with_reducible rfl)
 refine cZ 4 (fun K hK=>?_)
 go_simp
 go_at_call 230
 refine (OC x0 x1 y0 y1 _).mono ?_
 rintro e w1 ⟨rfl,hb⟩
 refine hK.out _ _ (ah.trans (hb.mono ah.size)) (fun ah=>?_)
 clear hK K hb
 refine cZ 9 (fun K hK=>?_)
 go_simp
 go_at_call 255
 refine (TV x2 y2 _).mono ?_
 rintro e w2 ⟨rfl,rfl⟩
 have hb:=aU w2.heap.size w2
 refine hK.out _ _ (ah.trans (hb.mono ah.size)) (fun ah=>?_)
 clear hK K hb
 refine cZ 10 (fun K hK=>?_)
 go_simp
 have hb:=(aU w2.heap.size w2).alloc (bK _) (.cells #[.int .i64 (jV x0 x1 y0 y1),.int .i64 (Lib.compareInt x2 y2)] 3)
 have Dh:=aj (aN.new w2 3 #[.int .i64 (jV x0 x1 y0 y1),.int .i64 (Lib.compareInt x2 y2)])
 refine hK.out _ _ (ah.trans (hb.mono ah.size)) (fun ah=>?_)
 clear hK K hb
 refine cZ 11 (fun K hK=>?_)
 go_simp
 go_at_call 241
 refine (TH _ _ _ _ Dh.out).mono ?_
 rintro e w3 ⟨rfl,rfl⟩
 have hb:=aU (w2.alloc (.cells #[.int .i64 (jV x0 x1 y0 y1),.int .i64 (Lib.compareInt x2 y2)] 3)).heap.size (w2.alloc (.cells #[.int .i64 (jV x0 x1 y0 y1),.int .i64 (Lib.compareInt x2 y2)] 3))
 refine hK.out _ _ (ah.trans (hb.mono ah.size)) (fun ah=>?_)
 clear hK K hb
 refine tk 12 ah ?_
 refine dQ ?_
 have HF:=aj ah
 clear ah
 have HB1:=aj (HB0.out.trans (HF.out.mono HB0.out.size))
 go_wp2
 go_ret
 exact ⟨rfl,HB1.out⟩
abbrev tgt (y0 y1 y2:Int):Value:=.agg #[.int .i64 y0,.int .i64 y1,.int .i64 y2,.string ⟨#[]⟩,.int .i64 0,.int .i64 0,.int .i64 0,.int .i64 0,.int .i64 0,.int .i64 0,.int .i64 0,.int .i64 0,.int .i64 0,.slice none 0 0]
def Cut (L:List aG)(a:av×Int)(lo hi:Nat):Prop:=(∀ i x,i<lo→L[i]? = some x→FI (mQ x) a)∧(∀ i x,hi≤i→L[i]? = some x→¬FI (mQ x) a)
theorem abP {L:List aG}{a:av×Int}{lo hi m:Nat}{x:aG}(h:Cut L a lo hi)(hi':qK L L.length)(hx:L[m]? = some x)(hk:FI (mQ x) a):Cut L a (m+1) hi:=⟨fun i y hi1 hy=>by
 by_cases e:i=m
 ·subst e;rw [hx] at hy;cases hy;exact hk
 ·exact rW (hi' i m y x (by omega) (List.getElem?_eq_some_iff.1 hx).1 hy hx) hk,h.2⟩
theorem abR {L:List aG}{a:av×Int}{lo hi m:Nat}{x:aG}(h:Cut L a lo hi)(hi':qK L L.length)(hx:L[m]? = some x)(hk:¬FI (mQ x) a):Cut L a lo m:=⟨h.1,fun i y hi1 hy hl=>by
 by_cases e:i=m
 ·subst e;rw [hx] at hy;cases hy;exact hk hl
 ·exact hk (rW (hi' m i x y (by omega) (List.getElem?_eq_some_iff.1 hy).1 hx hy) hl)⟩
theorem ZG {L:List aG}{a:av×Int}{k:Nat}{x:aG}(h:Cut L a k k)(hx:L[k]? = some x)(hk:mQ x=a):uX L a=(k:Int):=
 OD (fun i y hi hy he=>by have:=h.1 i y hi hy;rw [he] at this;exact kH this) hx hk
theorem Ic {L:List aG}{a:av×Int}{k:Nat}(h:Cut L a k k)(hi':qK L L.length)(hk:∀ x,L[k]? = some x→mQ x≠a):uX L a=-1:=
 Io fun i y hi hy he=>by
  rcases Nat.lt_trichotomy i k with h1 | h1 | h1
  ·have:=h.1 i y h1 hy;rw [he] at this;exact kH this
  ·subst h1;exact hk y hy he
  ·obtain ⟨x,hx⟩:∃ x,L[k]? = some x:=⟨L[k],List.getElem?_eq_getElem (by omega)⟩
   have:=hi' k i x y h1 hi hx hy
   rw [he] at this
   exact h.2 k x (bK _) hx this
theorem adM {L:List aG}{a:Option Addr}{cap:Nat}{y0 y1 y2:Int}{W:World}(hn:L.length≤1048576)(hI:qK L L.length)(h:aH aI W W.heap.size L a cap) :
 Calls Tryz.prog 261 #[.slice a L.length cap,tgt y0 y1 y2,.func (.func 262) #[] #[]] W fun e w'=>(∃ k:Nat,∃ b:Bool,e=.returned (.tuple #[.int .i64 k,.bool b])∧(b=true→uX L ((y0,y1),y2)=(k:Int))∧(b=false→uX L ((y0,y1),y2)=-1)∧Cut L ((y0,y1),y2) k k)∧Below W.heap.size W w':=by
 have H:=aj h
 have HI:=aj hI
 clear h hI
 obtain ⟨wo,hwo⟩:∃ w,w=W.alloc (.cells #[.int .i64 y0,.int .i64 y1,.int .i64 y2,.string ⟨#[]⟩,.int .i64 0,.int .i64 0,.int .i64 0,.int .i64 0,.int .i64 0,.int .i64 0,.int .i64 0,.int .i64 0,.int .i64 0,.slice none 0 0] 72):=⟨_,rfl⟩
 have HB0:=aj (show Below W.heap.size W wo from by rw [hwo];exact (aU _ _).alloc (bK _) _)
 have iF:=aj (show aN wo W.heap.size 72 #[.int .i64 y0,.int .i64 y1,.int .i64 y2,.string ⟨#[]⟩,.int .i64 0,.int .i64 0,.int .i64 0,.int .i64 0,.int .i64 0,.int .i64 0,.int .i64 0,.int .i64 0,.int .i64 0,.slice none 0 0] from by rw [hwo];exact aN.new _ _ _)
 have eg:∀ args w,(callFunc 262 args).run Tryz.prog w=.ok (.enter 262 args) w:=fun _ _=>rfl
 have HCT:=aj (⟨fun i x hi=>absurd hi (gT _),fun i x hi hx=>absurd (List.getElem?_eq_some_iff.1 hx).1 (by omega)⟩:Cut L ((y0,y1),y2) 0 L.length)
 go_enter Tryz.func261,Tryz.ntmps261
 go_wp2_with fail
 rw [←hwo]
 clear hwo
 go_loopw [9,10] (fun s9 s10 wr=>∃ lo hi:Nat,s9=.int .i64 lo∧s10=.int .i64 hi∧lo≤hi∧hi≤L.length∧Hid (Cut L ((y0,y1),y2) lo hi)∧Below wo.heap.size wo wr) (fun s9 s10 _=>(intOf s10).toNat-(intOf s9).toNat)
 case atStart=>exact ⟨0,L.length,rfl,rfl,dX _,bK _,HCT,aU _ _⟩
 case round=>
  obtain ⟨lo,hi,rfl,rfl,hlh,hin,HC,hB⟩:=hrel
  have HB:=aj (HB0.out.trans (hB.mono HB0.out.size))
  have HP:=aj (iF.out.call hB)
  have hszW:=HB.out.size
  have hB0:=aj hB
  clear hB
  by_cases hlt:lo<hi
  ·obtain ⟨m,hm⟩:∃ m,m=(lo+hi) / 2:=⟨_,rfl⟩
   have hm1:lo≤m:=by omega
   have hm2:m<hi:=by omega
   have hmid:((lo:Int)+(hi:Int)) / 2=(m:Int):=by omega
   clear hm
   obtain ⟨⟨⟨x0,x1⟩,x2,x3,x4,x5,x6,⟨x7,x8⟩,x9,x10,aR,aW,M⟩,hx⟩:=aL (show m<L.length by omega)
   have HX:=aj hx
   obtain ⟨g,o,us,rfl,hg,hu,hr⟩:=(H.out.below ay HB.out).at_ hx
   obtain ⟨ba,bc,rfl,sH,gW⟩:=fu hr
   obtain ⟨e0,e1,e2,e3,e4,e5,e6,e7,e8,e9,e10,e11,e12,e13⟩:=qz (a:=o+m*14) hu rfl
   have hi0:(0:Int)≤(m:Int):=eu _
   have hi1:(m:Int)<(L.length:Int):=by omega
   have hgl:g<wr.heap.size:=bV hg hszW
   have hC:=fun V=>U3 (x0:=x0) (x1:=x1) (x2:=x2) (x3:=x3) (x4:=x4) (x5:=x5) (x6:=x6) (x7:=x7) (x8:=x8) (x9:=x9) (x10:=x10) (aR:=aR) (aW:=aW) (L:=M) (a:=ba) (c:=bc) (y0:=y0) (y1:=y1) (y2:=y2) (y3:=⟨#[]⟩) (y4:=0) (y5:=0) (y6:=0) (y7:=0) (y8:=0) (y9:=0) (LX:=0) (Js:=0) (Rl:=0) (M:=[]) (b:=none) (d:=0) (W:=V)
   obtain ⟨r,L8⟩:∃ r,RZ ((x0,x1),x2) ((y0,y1),y2)=r:=⟨_,rfl⟩
   rw [L8] at hC
   clear hu hr hg hx sH
   by_cases hneg:r<0
   ·have HC2:=aj (abP HC.out HI.out HX.out ((Oz _ _).1 (by show RZ ((x0,x1),x2) _<0;rw [L8];exact hneg)))
    have hd:decide (r<0)=true:=eO hneg
    clear L8
    go_wp2_with fail
    refine dW (S:=(fun V=>Below (wr).heap.size (wr) V)) (by kernel_rfl) ((aU _ _).drew) (fun ah=>?_)
    refine tk 0 ah ?_
    refine tk 1 ah ?_
    refine tk 2 ah ?_
    refine tk 3 ah ?_
    refine tk 4 ah ?_ (hy:=fun w hSw=>by (try dsimp only at hSw);have k0:=(hSw.cell (p:=⟨g,o+m*14,none⟩) hgl).trans e0;have k1:=(hSw.cell (p:=⟨g,o+m*14+1,none⟩) hgl).trans e1;have k2:=(hSw.cell (p:=⟨g,o+m*14+2,none⟩) hgl).trans e2;have k3:=(hSw.cell (p:=⟨g,o+m*14+3,none⟩) hgl).trans e3;have k4:=(hSw.cell (p:=⟨g,o+m*14+4,none⟩) hgl).trans e4;have k5:=(hSw.cell (p:=⟨g,o+m*14+5,none⟩) hgl).trans e5;have k6:=(hSw.cell (p:=⟨g,o+m*14+6,none⟩) hgl).trans e6;have k7:=(hSw.cell (p:=⟨g,o+m*14+7,none⟩) hgl).trans e7;have k8:=(hSw.cell (p:=⟨g,o+m*14+8,none⟩) hgl).trans e8;have k9:=(hSw.cell (p:=⟨g,o+m*14+9,none⟩) hgl).trans e9;have k10:=(hSw.cell (p:=⟨g,o+m*14+10,none⟩) hgl).trans e10;have k11:=(hSw.cell (p:=⟨g,o+m*14+11,none⟩) hgl).trans e11;have k12:=(hSw.cell (p:=⟨g,o+m*14+12,none⟩) hgl).trans e12;have k13:=(hSw.cell (p:=⟨g,o+m*14+13,none⟩) hgl).trans e13;clear hSw;go_simp;try with_reducible rfl)
    refine tk 5 ah ?_ (hy:=fun w hSw=>by (try dsimp only at hSw);have k0:=HP.out.hat hSw 0 rfl;have k1:=HP.out.hat hSw 1 rfl;have k2:=HP.out.hat hSw 2 rfl;have k3:=HP.out.hat hSw 3 rfl;have k4:=HP.out.hat hSw 4 rfl;have k5:=HP.out.hat hSw 5 rfl;have k6:=HP.out.hat hSw 6 rfl;have k7:=HP.out.hat hSw 7 rfl;have k8:=HP.out.hat hSw 8 rfl;have k9:=HP.out.hat hSw 9 rfl;have k10:=HP.out.hat hSw 10 rfl;have k11:=HP.out.hat hSw 11 rfl;have k12:=HP.out.hat hSw 12 rfl;have k13:=HP.out.hat hSw 13 rfl;clear hSw;go_simp;try with_reducible rfl)
    refine cZ 6 (fun K hK=>?_)
    go_simp
    go_at_fn 262
    refine (hC _).mono ?_
    rintro e w9 ⟨rfl,hb⟩
    refine hK.out _ _ (ah.trans (hb.mono ah.size)) (fun ah=>?_)
    clear hK K hb
    refine tk 7 ah ?_
    refine dQ ?_
    have HF:=aj ah
    clear ah
    have HB2:=aj (HB.out.trans (HF.out.mono hszW))
    have HB3:=aj (hB0.out.trans (HF.out.mono hB0.out.size))
    go_wp2
    go_roundw
    case rel=>exact ⟨m+1,hi,by go_num,rfl,by omega,hin,HC2,HB3.out⟩
    case measure=>simp [intOf];omega
   ·have HC2:=aj (abR HC.out HI.out HX.out (fun h=>hneg (by have:=(Oz _ _).2 h;rw [←L8];exact this)))
    have hd:decide (r<0)=false:=dU hneg
    clear L8
    go_wp2_with fail
    refine dW (S:=(fun V=>Below (wr).heap.size (wr) V)) (by kernel_rfl) ((aU _ _).drew) (fun ah=>?_)
    refine tk 0 ah ?_
    refine tk 1 ah ?_
    refine tk 2 ah ?_
    refine tk 3 ah ?_
    refine tk 4 ah ?_ (hy:=fun w hSw=>by (try dsimp only at hSw);have k0:=(hSw.cell (p:=⟨g,o+m*14,none⟩) hgl).trans e0;have k1:=(hSw.cell (p:=⟨g,o+m*14+1,none⟩) hgl).trans e1;have k2:=(hSw.cell (p:=⟨g,o+m*14+2,none⟩) hgl).trans e2;have k3:=(hSw.cell (p:=⟨g,o+m*14+3,none⟩) hgl).trans e3;have k4:=(hSw.cell (p:=⟨g,o+m*14+4,none⟩) hgl).trans e4;have k5:=(hSw.cell (p:=⟨g,o+m*14+5,none⟩) hgl).trans e5;have k6:=(hSw.cell (p:=⟨g,o+m*14+6,none⟩) hgl).trans e6;have k7:=(hSw.cell (p:=⟨g,o+m*14+7,none⟩) hgl).trans e7;have k8:=(hSw.cell (p:=⟨g,o+m*14+8,none⟩) hgl).trans e8;have k9:=(hSw.cell (p:=⟨g,o+m*14+9,none⟩) hgl).trans e9;have k10:=(hSw.cell (p:=⟨g,o+m*14+10,none⟩) hgl).trans e10;have k11:=(hSw.cell (p:=⟨g,o+m*14+11,none⟩) hgl).trans e11;have k12:=(hSw.cell (p:=⟨g,o+m*14+12,none⟩) hgl).trans e12;have k13:=(hSw.cell (p:=⟨g,o+m*14+13,none⟩) hgl).trans e13;clear hSw;go_simp;try with_reducible rfl)
    refine tk 5 ah ?_ (hy:=fun w hSw=>by (try dsimp only at hSw);have k0:=HP.out.hat hSw 0 rfl;have k1:=HP.out.hat hSw 1 rfl;have k2:=HP.out.hat hSw 2 rfl;have k3:=HP.out.hat hSw 3 rfl;have k4:=HP.out.hat hSw 4 rfl;have k5:=HP.out.hat hSw 5 rfl;have k6:=HP.out.hat hSw 6 rfl;have k7:=HP.out.hat hSw 7 rfl;have k8:=HP.out.hat hSw 8 rfl;have k9:=HP.out.hat hSw 9 rfl;have k10:=HP.out.hat hSw 10 rfl;have k11:=HP.out.hat hSw 11 rfl;have k12:=HP.out.hat hSw 12 rfl;have k13:=HP.out.hat hSw 13 rfl;clear hSw;go_simp;try with_reducible rfl)
    refine cZ 6 (fun K hK=>?_)
    go_simp
    go_at_fn 262
    refine (hC _).mono ?_
    rintro e w9 ⟨rfl,hb⟩
    refine hK.out _ _ (ah.trans (hb.mono ah.size)) (fun ah=>?_)
    clear hK K hb
    refine tk 7 ah ?_
    refine dQ ?_
    have HF:=aj ah
    clear ah
    have HB2:=aj (HB.out.trans (HF.out.mono hszW))
    have HB3:=aj (hB0.out.trans (HF.out.mono hB0.out.size))
    go_wp2
    go_roundw
    case rel=>exact ⟨lo,m,rfl,by go_num,by omega,by omega,HC2,HB3.out⟩
    case measure=>simp [intOf];omega
  ·obtain rfl:lo=hi:=by omega
   have hdl:decide ((lo:Int)<(lo:Int))=false:=by simp
   by_cases hlen:lo<L.length
   ·obtain ⟨⟨⟨x0,x1⟩,x2,x3,x4,x5,x6,⟨x7,x8⟩,x9,x10,aR,aW,M⟩,hx⟩:=aL hlen
    have HX:=aj hx
    obtain ⟨g,o,us,rfl,hg,hu,hr⟩:=(H.out.below ay HB.out).at_ hx
    obtain ⟨ba,bc,rfl,sH,gW⟩:=fu hr
    obtain ⟨e0,e1,e2,e3,e4,e5,e6,e7,e8,e9,e10,e11,e12,e13⟩:=qz (a:=o+lo*14) hu rfl
    have hi0:(0:Int)≤(lo:Int):=eu _
    have hi1:(lo:Int)<(L.length:Int):=by omega
    have hdn:decide ((lo:Int)<(L.length:Int))=true:=eO hi1
    have hgl:g<wr.heap.size:=bV hg hszW
    have hC:=fun V=>U3 (x0:=x0) (x1:=x1) (x2:=x2) (x3:=x3) (x4:=x4) (x5:=x5) (x6:=x6) (x7:=x7) (x8:=x8) (x9:=x9) (x10:=x10) (aR:=aR) (aW:=aW) (L:=M) (a:=ba) (c:=bc) (y0:=y0) (y1:=y1) (y2:=y2) (y3:=⟨#[]⟩) (y4:=0) (y5:=0) (y6:=0) (y7:=0) (y8:=0) (y9:=0) (LX:=0) (Js:=0) (Rl:=0) (M:=[]) (b:=none) (d:=0) (W:=V)
    obtain ⟨r,L8⟩:∃ r,RZ ((x0,x1),x2) ((y0,y1),y2)=r:=⟨_,rfl⟩
    rw [L8] at hC
    have HR9:=aj L8
    clear hu hr hg hx sH L8
    obtain ⟨q,hq⟩:∃ q,(r==0)=q:=⟨_,rfl⟩
    have HT:=aj (show q=true→uX L ((y0,y1),y2)=(lo:Int) from fun h=>ZG HC.out HX.out ((Ik _ _).1 (HR9.out.trans (eq_of_beq (hq.trans h)))))
    have HM:=aj (show q=false→uX L ((y0,y1),y2)=-1 from fun h=>Ic HC.out HI.out fun x hx he=>by
     obtain rfl:=fB (HX.out.symm.trans hx)
     have h2:RZ ((x0,x1),x2) ((y0,y1),y2)=0:=(Ik _ _).2 he
     have h3:r=0:=HR9.out.symm.trans h2
     rw [←hq,h3] at h
     cases h)
    go_wp2_with fail
    refine dW (S:=(fun V=>Below (wr).heap.size (wr) V)) (by kernel_rfl) ((aU _ _).drew) (fun ah=>?_)
    refine tk 0 ah ?_
    refine tk 1 ah ?_
    refine tk 2 ah ?_
    refine tk 3 ah ?_
    refine tk 4 ah ?_
    refine tk 5 ah ?_
    refine tk 6 ah ?_
    refine tk 7 ah ?_
    refine tk 8 ah ?_
    refine tk 9 ah ?_ (hy:=fun w hSw=>by (try dsimp only at hSw);have k0:=(hSw.cell (p:=⟨g,o+lo*14,none⟩) hgl).trans e0;have k1:=(hSw.cell (p:=⟨g,o+lo*14+1,none⟩) hgl).trans e1;have k2:=(hSw.cell (p:=⟨g,o+lo*14+2,none⟩) hgl).trans e2;have k3:=(hSw.cell (p:=⟨g,o+lo*14+3,none⟩) hgl).trans e3;have k4:=(hSw.cell (p:=⟨g,o+lo*14+4,none⟩) hgl).trans e4;have k5:=(hSw.cell (p:=⟨g,o+lo*14+5,none⟩) hgl).trans e5;have k6:=(hSw.cell (p:=⟨g,o+lo*14+6,none⟩) hgl).trans e6;have k7:=(hSw.cell (p:=⟨g,o+lo*14+7,none⟩) hgl).trans e7;have k8:=(hSw.cell (p:=⟨g,o+lo*14+8,none⟩) hgl).trans e8;have k9:=(hSw.cell (p:=⟨g,o+lo*14+9,none⟩) hgl).trans e9;have k10:=(hSw.cell (p:=⟨g,o+lo*14+10,none⟩) hgl).trans e10;have k11:=(hSw.cell (p:=⟨g,o+lo*14+11,none⟩) hgl).trans e11;have k12:=(hSw.cell (p:=⟨g,o+lo*14+12,none⟩) hgl).trans e12;have k13:=(hSw.cell (p:=⟨g,o+lo*14+13,none⟩) hgl).trans e13;clear hSw;go_simp;try with_reducible rfl)
    refine tk 10 ah ?_ (hy:=fun w hSw=>by (try dsimp only at hSw);have k0:=HP.out.hat hSw 0 rfl;have k1:=HP.out.hat hSw 1 rfl;have k2:=HP.out.hat hSw 2 rfl;have k3:=HP.out.hat hSw 3 rfl;have k4:=HP.out.hat hSw 4 rfl;have k5:=HP.out.hat hSw 5 rfl;have k6:=HP.out.hat hSw 6 rfl;have k7:=HP.out.hat hSw 7 rfl;have k8:=HP.out.hat hSw 8 rfl;have k9:=HP.out.hat hSw 9 rfl;have k10:=HP.out.hat hSw 10 rfl;have k11:=HP.out.hat hSw 11 rfl;have k12:=HP.out.hat hSw 12 rfl;have k13:=HP.out.hat hSw 13 rfl;clear hSw;go_simp;try with_reducible rfl)
    refine cZ 11 (fun K hK=>?_)
    go_simp
    go_at_fn 262
    refine (hC _).mono ?_
    rintro e w9 ⟨rfl,hb⟩
    refine hK.out _ _ (ah.trans (hb.mono ah.size)) (fun ah=>?_)
    clear hK K hb
    refine tk 12 ah ?_
    refine tk 13 ah ?_
    refine tk 14 ah ?_
    refine tk 15 ah ?_
    refine dQ ?_
    have HF:=aj ah
    clear ah
    have HB2:=aj (HB.out.trans (HF.out.mono hszW))
    go_wp2
    go_ret2
    exact ⟨⟨lo,q,rfl,HT.out,HM.out,HC.out⟩,HB2.out⟩
   ·have hdn:decide ((lo:Int)<(L.length:Int))=false:=dU (by omega)
    have HM:=aj (Ic HC.out HI.out fun x hx=>absurd (List.getElem?_eq_some_iff.1 hx).1 hlen)
    go_wp2_with fail
    go_quiet (fail)
    all_goals
     go_wp2
     go_ret2
     exact ⟨⟨lo,false,rfl,fun h=>(by cases h),fun _=>HM.out,HC.out⟩,by first | exact HB.out | exact HB.out.drew | exact fC HB.out _⟩
theorem Cj {L:List aG}{a:Option Addr}{cap:Nat}{y0 y1 y2:Int}{W:World}(hn:L.length≤1048576)(hI:qK L L.length)(h:aH aI W W.heap.size L a cap) :
 Calls Tryz.prog 238 #[.slice a L.length cap,.agg #[.int .i64 y0,.int .i64 y1],.int .i64 y2] W fun e w'=>(∃ k:Nat,∃ b:Bool,e=.returned (.tuple #[.int .i64 k,.bool b])∧(b=true→uX L ((y0,y1),y2)=(k:Int))∧(b=false→uX L ((y0,y1),y2)=-1)∧Cut L ((y0,y1),y2) k k)∧Below W.heap.size W w':=by
 have H:=aj h
 have HI:=aj hI
 clear h hI
 obtain ⟨wo,hwo⟩:∃ w,w=W.alloc (.cells #[.int .i64 y0,.int .i64 y1] 49):=⟨_,rfl⟩
 have HB0:=aj (show Below W.heap.size W wo from by rw [hwo];exact (aU _ _).alloc (bK _) _)
 have HA:=aj ((H.out.below ay HB0.out).more ay HB0.out.size)
 go_enter Tryz.func238,Tryz.ntmps238
 go_wp2_with fail
 rw [←hwo]
 clear hwo
 refine (adM hn HI.out HA.out).mono ?_
 rintro e w1 ⟨⟨k,b,rfl,h1⟩,hb⟩
 have HB:=aj (HB0.out.trans (hb.mono HB0.out.size))
 have H1:=aj h1
 clear hb h1
 go_wp2
 go_ret2
 exact ⟨⟨k,b,rfl,H1.out⟩,HB.out⟩
theorem Iz {L:List aG}{a:Option Addr}{cap:Nat}{y0 y1 y2:Int}{W:World}(hn:L.length≤1048576)(hI:qK L L.length)(h:aH aI W W.heap.size L a cap) :
 Calls Tryz.prog 195 #[.slice a L.length cap,.agg #[.int .i64 y0,.int .i64 y1],.int .i64 y2] W fun e w'=>e=.returned (.int .i64 (uX L ((y0,y1),y2)))∧Below W.heap.size W w':=by
 have H:=aj h
 have HI:=aj hI
 clear h hI
 obtain ⟨wo,hwo⟩:∃ w,w=W.alloc (.cells #[.int .i64 y0,.int .i64 y1] 49):=⟨_,rfl⟩
 have HB0:=aj (show Below W.heap.size W wo from by rw [hwo];exact (aU _ _).alloc (bK _) _)
 have HA:=aj ((H.out.below ay HB0.out).more ay HB0.out.size)
 go_enter Tryz.func195,Tryz.ntmps195
 go_wp2_with fail
 rw [←hwo]
 clear hwo
 refine (Cj hn HI.out HA.out).mono ?_
 rintro e w1 ⟨⟨k,b,rfl,h1,h2,_⟩,hb⟩
 have HB:=aj (HB0.out.trans (hb.mono HB0.out.size))
 have H1:=aj h1
 have H2:=aj h2
 clear hb h1 h2
 cases b with
 | true=>
  have HE:=aj (H1.out rfl)
  go_wp2
  go_ret
  exact ⟨by rw [HE.out];rfl,HB.out⟩
 | false=>
  have HE:=aj (H2.out rfl)
  go_wp2
  go_ret
  exact ⟨by rw [HE.out];rfl,HB.out⟩
def Gs (L:List aG)(x:aG):Prop:=(L.length=0→Jt x=1)∧∀ y,0<L.length→L[L.length-1]? = some y→AB y x
open Classical in
noncomputable def vI (L:List aG)(x:aG):Bool:=decide (Gs L x)
open Classical in
theorem rT {L:List aG}{x:aG}:vI L x=true↔Gs L x:=by unfold vI;simp
theorem EM {L:List aG}{x:aG}{b:Bool}(h:b=true↔Gs L x):vI L x=b:=by
 cases b <;> cases hn:vI L x
 ·rfl
 ·exact absurd (h.2 (rT.1 hn)) (by decide)
 ·exact absurd (rT.2 (h.1 rfl)) (by rw [hn];decide)
 ·rfl
theorem LJ {L:List aG}{n:Nat}{a:Option Addr}{cap:Nat}{x0 x1 x2:Int}{x3:ByteArray}{x4 x5 x6 x7 x8 x9 x10 aR aW:Int}{M:List Int}{ba:Option Addr}{bc:Nat}{W:World}(hLn:L.length=n)(hid:∀ y,L[L.length-1]? = some y→1≤Jt y∧Jt y≤12)(h:aH aI W W.heap.size L a cap) :
 Calls Tryz.prog 194 #[.slice a n cap,.agg #[.int .i64 x0,.int .i64 x1,.int .i64 x2,.string x3,.int .i64 x4,.int .i64 x5,.int .i64 x6,.int .i64 x7,.int .i64 x8,.int .i64 x9,.int .i64 x10,.int .i64 aR,.int .i64 aW,.slice ba M.length bc]] W fun e w'=>e=.returned (.bool (vI L ((x0,x1),x2,x3,x4,x5,x6,(x7,x8),x9,x10,aR,aW,M)))∧Below W.heap.size W w':=by
 subst hLn
 have hn:L.length≤9223372036854775807:=by have h1:=h.1;have h2:=h.2.1;unfold maxLen at h2;omega
 have H:=aj h
 have HID:=aj hid
 clear h hid
 obtain ⟨wo,hwo⟩:∃ w,w=W.alloc (.cells #[.int .i64 x0,.int .i64 x1,.int .i64 x2,.string x3,.int .i64 x4,.int .i64 x5,.int .i64 x6,.int .i64 x7,.int .i64 x8,.int .i64 x9,.int .i64 x10,.int .i64 aR,.int .i64 aW,.slice ba M.length bc] 72):=⟨_,rfl⟩
 have HB0:=aj (show Below W.heap.size W wo from by rw [hwo];exact (aU _ _).alloc (bK _) _)
 have iF:=aj (show aN wo W.heap.size 72 #[.int .i64 x0,.int .i64 x1,.int .i64 x2,.string x3,.int .i64 x4,.int .i64 x5,.int .i64 x6,.int .i64 x7,.int .i64 x8,.int .i64 x9,.int .i64 x10,.int .i64 aR,.int .i64 aW,.slice ba M.length bc] from by rw [hwo];exact aN.new _ _ _)
 have HA0:=aj ((H.out.below ay HB0.out).more ay HB0.out.size)
 by_cases h0:L.length=0
 ·have hd:((L.length:Int)==0)=true:=by simp [h0]
  obtain ⟨b,hb⟩:∃ b,(x2==1)=b:=⟨_,rfl⟩
  have HE:=aj (show vI L ((x0,x1),x2,x3,x4,x5,x6,(x7,x8),x9,x10,aR,aW,M)=b from EM (by
   rw [←hb,beq_iff_eq]
   exact ⟨fun h=>⟨fun _=>h,fun y h2=>by omega⟩,fun h=>h.1 h0⟩))
  rw [hwo] at HB0
  clear hwo h0 iF HA0
  go_enter Tryz.func194,Tryz.ntmps194
  go_wp2
  go_ret
  exact ⟨by rw [HE.out];rfl,HB0.out⟩
 ·have hd:((L.length:Int)==0)=false:=by simp;exact fun h=>h0 (by simp [h])
  obtain ⟨j,hj⟩:∃ j,L.length=j+1:=⟨L.length-1,by omega⟩
  obtain ⟨⟨⟨y0,y1⟩,y2,y3,y4,y5,y6,⟨y7,y8⟩,y9,LX,Js,Rl,N⟩,hy⟩:=aL (show j<L.length by omega)
  have HY:=aj (show L[L.length-1]? = some ((y0,y1),y2,y3,y4,y5,y6,(y7,y8),y9,LX,Js,Rl,N) from by rw [hj,Nat.add_sub_cancel];exact hy)
  have hjs:(L.length:Int)-1=(j:Int):=by omega
  have hj0:(0:Int)≤(j:Int):=eu _
  have hj1:(j:Int)<(L.length:Int):=by omega
  have Xm:IntKind.i64.wrap (j:Int)=(j:Int):=gJ _ (by omega)
  obtain ⟨g,o,us,rfl,hg,hu,hr⟩:=HA0.out.at_ hy
  obtain ⟨da,dc,rfl,k_N,b_y3⟩:=fu hr
  obtain ⟨e0,e1,e2,e3,e4,e5,e6,e7,e8,e9,e10,e11,e12,e13⟩:=qz (a:=o+j*14) hu rfl
  have hy2:1≤y2∧y2≤12:=HID.out _ HY.out
  have hyw:IntKind.i64.wrap (y2+1)=y2+1:=gJ _ (by omega)
  have HL0:=aj h0
  have HU:=aj (fun (y:aG) (hy:L[L.length-1]? = some y)=>(fB (HY.out.symm.trans hy)))
  obtain ⟨w1,hw1⟩:∃ w,w=wo.alloc (.cells #[.int .i64 y0,.int .i64 y1,.int .i64 y2,.string y3,.int .i64 y4,.int .i64 y5,.int .i64 y6,.int .i64 y7,.int .i64 y8,.int .i64 y9,.int .i64 LX,.int .i64 Js,.int .i64 Rl,.slice da N.length dc] 72):=⟨_,rfl⟩
  have hb1:Below wo.heap.size wo w1:=by rw [hw1];exact (aU _ _).alloc (bK _) _
  have HB1:=aj (HB0.out.trans (hb1.mono HB0.out.size))
  have HPX:=aj (iF.out.call hb1)
  have HPY:=aj (show aN w1 wo.heap.size 72 #[.int .i64 y0,.int .i64 y1,.int .i64 y2,.string y3,.int .i64 y4,.int .i64 y5,.int .i64 y6,.int .i64 y7,.int .i64 y8,.int .i64 y9,.int .i64 LX,.int .i64 Js,.int .i64 Rl,.slice da N.length dc] from by rw [hw1];exact aN.new _ _ _)
  obtain ⟨a0,a1,a2⟩:=HPX.out.o8 rfl
  obtain ⟨c0,c1,c2⟩:=HPY.out.o8 rfl
  obtain ⟨b,hb⟩:∃ b,decide (((x0,x1):Int×Int)=(y0,y1))=b:=⟨_,rfl⟩
  have hq:=iK x0 x1 y0 y1 b hb
  have HQ:=aj hb
  clear hb hy hg hu hr k_N hb1 h0 hj
  cases b with
  | true=>
   obtain ⟨c,hc⟩:∃ c,(x2==y2+1)=c:=⟨_,rfl⟩
   have HE:=aj (show vI L ((x0,x1),x2,x3,x4,x5,x6,(x7,x8),x9,x10,aR,aW,M)=c from EM (by
    rw [←hc,beq_iff_eq]
    have e:((x0,x1):av)=(y0,y1):=of_decide_eq_true HQ.out
    refine ⟨fun h=>⟨fun h2=>absurd h2 HL0.out,fun y _ hy=>by rw [←HU.out y hy];exact .inl ⟨e.symm,h⟩⟩,fun h=>?_⟩
    rcases h.2 _ (by have:=HL0.out;omega) HY.out with h2 | h2
    ·exact h2.2
    ·have h3:j3 (y0,y1) (x0,x1):=h2.1
     rw [e] at h3
     exact absurd h3 iH))
   go_enter Tryz.func194,Tryz.ntmps194
   go_upto_region 1 with fail
   rw [←hwo]
   clear hwo
   go_upto_region 4 with fail
   rw [←hw1]
   clear hw1 e0 e1 e2 e3 e4 e5 e6 e7 e8 e9 e10 e11 e12 e13
   go_wp2
   go_ret
   exact ⟨by rw [HE.out];rfl,HB1.out⟩
  | false=>
   obtain ⟨r,L8⟩:∃ r,jV y0 y1 x0 x1=r:=⟨_,rfl⟩
   have hC:=fun V=>OC y0 y1 x0 x1 V
   rw [L8] at hC
   have HRL:=aj (show r<0↔j3 (y0,y1) (x0,x1) from by
    rcases aat y0 y1 x0 x1 with ⟨e1,h1⟩ | ⟨e1,h1⟩ | ⟨e1,h1⟩
    ·rw [←L8,e1];simp [h1]
    ·exact absurd h1.symm (of_decide_eq_false HQ.out)
    ·rw [←L8,e1]
     exact ⟨fun h=>by omega,fun h=>absurd (pY h h1) iH⟩)
   obtain ⟨f,hf⟩:∃ f,decide (r<0)=f:=⟨_,rfl⟩
   obtain ⟨c,hc⟩:∃ c,(x2==1)=c:=⟨_,rfl⟩
   have HE:=aj (show vI L ((x0,x1),x2,x3,x4,x5,x6,(x7,x8),x9,x10,aR,aW,M)=(f&&c) from EM (by
    rw [←hf,←hc]
    simp only [Bool.and_eq_true,decide_eq_true_eq,beq_iff_eq]
    refine ⟨fun h=>⟨fun h2=>absurd h2 HL0.out,fun y _ hy=>by rw [←HU.out y hy];exact .inr ⟨HRL.out.1 h.1,h.2⟩⟩,fun h=>?_⟩
    rcases h.2 _ (by have:=HL0.out;omega) HY.out with h2 | h2
    ·exact absurd h2.1.symm (of_decide_eq_false HQ.out)
    ·exact ⟨HRL.out.2 h2.1,h2.2⟩))
   clear L8
   go_enter Tryz.func194,Tryz.ntmps194
   go_upto_region 1 with fail
   rw [←hwo]
   clear hwo
   go_upto_region 4 with fail
   rw [←hw1]
   clear hw1 e0 e1 e2 e3 e4 e5 e6 e7 e8 e9 e10 e11 e12 e13
   go_wp2_with fail
   refine (hC _).mono ?_
   rintro e w2 ⟨rfl,hb⟩
   have HB2:=aj (HB1.out.trans (hb.mono HB1.out.size))
   have HPX2:=aj (HPX.out.call hb)
   clear hb a0 a1 a2 c0 c1 c2
   have a2:=HPX2.out.at_ 2 rfl
   cases f with
   | false=>
    go_wp2
    go_ret
    exact ⟨by rw [HE.out];rfl,HB2.out⟩
   | true=>
    go_wp2
    go_ret
    exact ⟨by rw [HE.out];rfl,HB2.out⟩
theorem Vj {L:List aG}{n:Nat}{a:Option Addr}{cap:Nat}{y0 y1 y2:Int}{W:World}(hLn:L.length=n)(hn:L.length≤1048576)(hI:qK L L.length)(h:aH aI W W.heap.size L a cap) :
 Calls Tryz.prog 195 #[.slice a n cap,.agg #[.int .i64 y0,.int .i64 y1],.int .i64 y2] W fun e w'=>e=.returned (.int .i64 (uX L ((y0,y1),y2)))∧Below W.heap.size W w':=by
 subst hLn
 exact Iz hn hI h
theorem Kt {L:List aG}{a:Option Addr}{cap:Nat}{W:World}(h:aH aI W W.heap.size L a cap) :
 Calls Tryz.prog 132 #[.slice a L.length cap] W (sD (ou L) W):=by
 refine Calls.mono ?_ fun e w' h=>rH jq h
 have hn:L.length≤9223372036854775807:=by have h1:=h.1;have h2:=h.2.1;unfold maxLen at h2;omega
 have H:=aj h
 clear h
 by_cases h96:L.length≤96
 rotate_left
 ·have HN:=aj (show ¬pK L from fun h=>h96 h.1)
  have hd:decide ((96:Int)<(L.length:Int))=true:=eO (by omega)
  go_enter Tryz.func132,Tryz.ntmps132
  go_wp2
  go_ret
  exact aA HN.out (aU _ _)
 have hd:decide ((96:Int)<(L.length:Int))=false:=dU (by omega)
 go_enter Tryz.func132,Tryz.ntmps132
 go_wp2
 go_loopw [10] (fun i wr=>∃ k:Nat,k≤L.length∧i=.int .i64 k∧Hid (Ai L k)∧Below W.heap.size W wr) (fun i _=>L.length-(intOf i).toNat)
 case atStart=>exact ⟨0,dX _,rfl,aj Bu,aU _ _⟩
 case round=>
  obtain ⟨k,hk,rfl,HO,hB⟩:=hrel
  have HB:=aj hB
  have hsz:=hB.size
  by_cases hlt:k<L.length
  ·skip
   obtain ⟨⟨⟨x0,x1⟩,x2,x3,x4,x5,x6,⟨x7,x8⟩,x9,x10,aR,aW,M⟩,hx⟩:=aL hlt
   have HX:=aj hx
   obtain ⟨g,o,us,rfl,hg,hu,hr⟩:=(H.out.below ay hB).at_ hx
   have HRX:=aj hr
   obtain ⟨ba,bc,rfl,sH,gW⟩:=fu hr
   obtain ⟨e0,e1,e2,e3,e4,e5,e6,e7,e8,e9,e10,e11,e12,e13⟩:=qz (a:=o+k*14) hu rfl
   have hi0:(0:Int)≤(k:Int):=eu _
   have hi1:(k:Int)<(L.length:Int):=by omega
   obtain ⟨w1,hw1⟩:∃ w,w=wr.alloc (.cells #[.int .i64 x0,.int .i64 x1,.int .i64 x2,.string x3,.int .i64 x4,.int .i64 x5,.int .i64 x6,.int .i64 x7,.int .i64 x8,.int .i64 x9,.int .i64 x10,.int .i64 aR,.int .i64 aW,.slice ba M.length bc] 72):=⟨_,rfl⟩
   have iE:Below wr.heap.size wr w1:=by rw [hw1];exact (aU _ _).alloc (bK _) _
   have dh:=aj (show aN w1 wr.heap.size 72 #[.int .i64 x0,.int .i64 x1,.int .i64 x2,.string x3,.int .i64 x4,.int .i64 x5,.int .i64 x6,.int .i64 x7,.int .i64 x8,.int .i64 x9,.int .i64 x10,.int .i64 aR,.int .i64 aW,.slice ba M.length bc] from by rw [hw1];exact aN.new _ _ _)
   have HB1:=aj (HB.out.trans (iE.mono hsz))
   have HR1:=aj ((ay.fD HRX.out (iE.mono hsz) |> fun h=>ay.jy h (eH hsz iE.size)))
   have HA1:=aj (((H.out.below ay HB1.out).more ay HB1.out.size).take k)
   have hTL:=aj (show (L.take k).length=k from by rw [List.length_take];omega)
   have hkc:k≤cap:=by have h8:=H.out.1;omega
   have hTN:(L.take k).length≤1048576:=by rw [hTL.out];omega
   have HLY:=aj (show ∀ y,(L.take k)[(L.take k).length-1]? = some y→1≤Jt y∧Jt y≤12 from fun y hy=>by
    rw [List.getElem?_take] at hy
    split at hy
    ·rename_i h5
     exact (HO.out _ y h5 hy).1.id
    ·cases hy)
   have HIN:=aj ((DC HO.out hk).take (bK _) hk)
   have HNP:=aj (show Gs (L.take k) ((x0,x1),x2,x3,x4,x5,x6,(x7,x8),x9,x10,aR,aW,M)↔((k=0→Jt ((x0,x1),x2,x3,x4,x5,x6,(x7,x8),x9,x10,aR,aW,M)=1)∧∀ y,0<k→L[k-1]? = some y→AB y ((x0,x1),x2,x3,x4,x5,x6,(x7,x8),x9,x10,aR,aW,M)) from by
    unfold Gs
    rw [hTL.out]
    refine and_congr Iff.rfl (forall_congr' fun y=>?_)
    constructor
    ·intro h h1 h2;exact h h1 (by rw [List.getElem?_take,if_pos (by omega)];exact h2)
    ·intro h h1 h2;rw [List.getElem?_take,if_pos (by omega)] at h2;exact h h1 h2)
   clear hu hr hg hB hx sH
   go_upto_region 6 with fail
   rw [←hw1]
   clear hw1 iE e0 e1 e2 e3 e4 e5 e6 e7 e8 e9 e10 e11 e12 e13
   cases hT:Dk ((x0,x1),x2,x3,x4,x5,x6,(x7,x8),x9,x10,aR,aW,M) with
   | false=>
    have HN:=aj (iC HX.out fun h=>by have h2:=lN.2 h.1;rw [hT] at h2;cases h2)
    have hTI:=fun V (h:aI.rd V V.heap.size ((x0,x1),x2,x3,x4,x5,x6,(x7,x8),x9,x10,aR,aW,M) [.int .i64 x0,.int .i64 x1,.int .i64 x2,.string x3,.int .i64 x4,.int .i64 x5,.int .i64 x6,.int .i64 x7,.int .i64 x8,.int .i64 x9,.int .i64 x10,.int .i64 aR,.int .i64 aW,.slice ba M.length bc])=>Nk h
    rw [hT] at hTI
    clear hT
    refine dW (S:=(fun V=>Below (w1).heap.size (w1) V)) (by kernel_rfl) ((aU _ _).drew) (fun ah=>?_)
    refine tk 0 ah ?_ (hy:=fun w hSw=>by (try dsimp only at hSw);have k0:=dh.out.hat hSw 0 rfl;have k1:=dh.out.hat hSw 1 rfl;have k2:=dh.out.hat hSw 2 rfl;have k3:=dh.out.hat hSw 3 rfl;have k4:=dh.out.hat hSw 4 rfl;have k5:=dh.out.hat hSw 5 rfl;have k6:=dh.out.hat hSw 6 rfl;have k7:=dh.out.hat hSw 7 rfl;have k8:=dh.out.hat hSw 8 rfl;have k9:=dh.out.hat hSw 9 rfl;have k10:=dh.out.hat hSw 10 rfl;have k11:=dh.out.hat hSw 11 rfl;have k12:=dh.out.hat hSw 12 rfl;have k13:=dh.out.hat hSw 13 rfl;clear hSw;go_simp;try with_reducible rfl)
    refine cZ 1 (fun K hK=>?_)
    go_simp
    go_at_call 193
    refine (hTI _ (ay.jy (ay.fD HR1.out ah) ah.size)).mono ?_
    rintro e w2 ⟨rfl,hb⟩
    refine hK.out _ _ (ah.trans (hb.mono ah.size)) (fun ah=>?_)
    clear hK K hb
    refine tk 2 ah ?_
    refine tk 3 ah ?_
    refine tn 4 ah ?_
    refine tn 5 ah ?_
    refine tn 6 ah ?_
    refine tn 7 ah ?_
    refine tn 8 ah ?_
    refine tn 9 ah ?_
    refine tk 10 ah ?_
    refine dQ ?_
    have HF:=aj ah
    clear ah
    have HB2:=aj (HB1.out.trans (HF.out.mono HB1.out.size))
    go_wp2
    go_ret
    exact aA HN.out HB2.out
   | true=>
   have HT:=aj (lN.1 hT)
   have hTI:=fun V (h:aI.rd V V.heap.size ((x0,x1),x2,x3,x4,x5,x6,(x7,x8),x9,x10,aR,aW,M) [.int .i64 x0,.int .i64 x1,.int .i64 x2,.string x3,.int .i64 x4,.int .i64 x5,.int .i64 x6,.int .i64 x7,.int .i64 x8,.int .i64 x9,.int .i64 x10,.int .i64 aR,.int .i64 aW,.slice ba M.length bc])=>Nk h
   rw [hT] at hTI
   clear hT
   have hCM:=fun V h=>LJ (W:=V) (a:=some ⟨g,o,none⟩) (cap:=cap) (x0:=x0) (x1:=x1) (x2:=x2) (x3:=x3) (x4:=x4) (x5:=x5) (x6:=x6) (x7:=x7) (x8:=x8) (x9:=x9) (x10:=x10) (aR:=aR) (aW:=aW) (M:=M) (ba:=ba) (bc:=bc) hTL.out HLY.out h
   cases hN:vI (L.take k) ((x0,x1),x2,x3,x4,x5,x6,(x7,x8),x9,x10,aR,aW,M) with
   | false=>
    have HN:=aj (iC HX.out fun h=>by have h2:=rT.2 (HNP.out.2 ⟨h.2.1,h.2.2.1⟩);rw [hN] at h2;cases h2)
    rw [hN] at hCM
    clear hN
    refine dW (S:=(fun V=>Below (w1).heap.size (w1) V)) (by kernel_rfl) ((aU _ _).drew) (fun ah=>?_)
    refine tk 0 ah ?_ (hy:=fun w hSw=>by (try dsimp only at hSw);have k0:=dh.out.hat hSw 0 rfl;have k1:=dh.out.hat hSw 1 rfl;have k2:=dh.out.hat hSw 2 rfl;have k3:=dh.out.hat hSw 3 rfl;have k4:=dh.out.hat hSw 4 rfl;have k5:=dh.out.hat hSw 5 rfl;have k6:=dh.out.hat hSw 6 rfl;have k7:=dh.out.hat hSw 7 rfl;have k8:=dh.out.hat hSw 8 rfl;have k9:=dh.out.hat hSw 9 rfl;have k10:=dh.out.hat hSw 10 rfl;have k11:=dh.out.hat hSw 11 rfl;have k12:=dh.out.hat hSw 12 rfl;have k13:=dh.out.hat hSw 13 rfl;clear hSw;go_simp;try with_reducible rfl)
    refine cZ 1 (fun K hK=>?_)
    go_simp
    go_at_call 193
    refine (hTI _ (ay.jy (ay.fD HR1.out ah) ah.size)).mono ?_
    rintro e w2 ⟨rfl,hb⟩
    refine hK.out _ _ (ah.trans (hb.mono ah.size)) (fun ah=>?_)
    clear hK K hb
    refine tk 2 ah ?_
    refine tk 3 ah ?_
    refine tk 4 ah ?_
    refine tk 5 ah ?_
    refine tk 6 ah ?_
    refine tk 7 ah ?_ (hy:=fun w hSw=>by (try dsimp only at hSw);have k0:=dh.out.hat hSw 0 rfl;have k1:=dh.out.hat hSw 1 rfl;have k2:=dh.out.hat hSw 2 rfl;have k3:=dh.out.hat hSw 3 rfl;have k4:=dh.out.hat hSw 4 rfl;have k5:=dh.out.hat hSw 5 rfl;have k6:=dh.out.hat hSw 6 rfl;have k7:=dh.out.hat hSw 7 rfl;have k8:=dh.out.hat hSw 8 rfl;have k9:=dh.out.hat hSw 9 rfl;have k10:=dh.out.hat hSw 10 rfl;have k11:=dh.out.hat hSw 11 rfl;have k12:=dh.out.hat hSw 12 rfl;have k13:=dh.out.hat hSw 13 rfl;clear hSw;go_simp;try with_reducible rfl)
    refine cZ 8 (fun K hK=>?_)
    go_simp
    go_at_call 194
    refine (hCM _ ((HA1.out.below ay ah).more ay ah.size)).mono ?_
    rintro e w3 ⟨rfl,hb⟩
    refine hK.out _ _ (ah.trans (hb.mono ah.size)) (fun ah=>?_)
    clear hK K hb
    refine tk 9 ah ?_
    refine tk 10 ah ?_
    refine dQ ?_
    have HF:=aj ah
    clear ah
    have HB2:=aj (HB1.out.trans (HF.out.mono HB1.out.size))
    go_wp2
    go_ret
    exact aA HN.out HB2.out
   | true=>
   have OP:=aj (HNP.out.1 (rT.1 hN))
   rw [hN] at hCM
   clear hN
   refine dW (S:=(fun V=>Below (w1).heap.size (w1) V)) (by kernel_rfl) ((aU _ _).drew) (fun ah=>?_)
   refine tk 0 ah ?_ (hy:=fun w hSw=>by (try dsimp only at hSw);have k0:=dh.out.hat hSw 0 rfl;have k1:=dh.out.hat hSw 1 rfl;have k2:=dh.out.hat hSw 2 rfl;have k3:=dh.out.hat hSw 3 rfl;have k4:=dh.out.hat hSw 4 rfl;have k5:=dh.out.hat hSw 5 rfl;have k6:=dh.out.hat hSw 6 rfl;have k7:=dh.out.hat hSw 7 rfl;have k8:=dh.out.hat hSw 8 rfl;have k9:=dh.out.hat hSw 9 rfl;have k10:=dh.out.hat hSw 10 rfl;have k11:=dh.out.hat hSw 11 rfl;have k12:=dh.out.hat hSw 12 rfl;have k13:=dh.out.hat hSw 13 rfl;clear hSw;go_simp;try with_reducible rfl)
   refine cZ 1 (fun K hK=>?_)
   go_simp
   go_at_call 193
   refine (hTI _ (ay.jy (ay.fD HR1.out ah) ah.size)).mono ?_
   rintro e w2 ⟨rfl,hb⟩
   refine hK.out _ _ (ah.trans (hb.mono ah.size)) (fun ah=>?_)
   clear hK K hb
   refine tk 2 ah ?_
   refine tk 3 ah ?_
   refine tk 4 ah ?_
   refine tk 5 ah ?_
   refine tk 6 ah ?_
   refine tk 7 ah ?_ (hy:=fun w hSw=>by (try dsimp only at hSw);have k0:=dh.out.hat hSw 0 rfl;have k1:=dh.out.hat hSw 1 rfl;have k2:=dh.out.hat hSw 2 rfl;have k3:=dh.out.hat hSw 3 rfl;have k4:=dh.out.hat hSw 4 rfl;have k5:=dh.out.hat hSw 5 rfl;have k6:=dh.out.hat hSw 6 rfl;have k7:=dh.out.hat hSw 7 rfl;have k8:=dh.out.hat hSw 8 rfl;have k9:=dh.out.hat hSw 9 rfl;have k10:=dh.out.hat hSw 10 rfl;have k11:=dh.out.hat hSw 11 rfl;have k12:=dh.out.hat hSw 12 rfl;have k13:=dh.out.hat hSw 13 rfl;clear hSw;go_simp;try with_reducible rfl)
   refine cZ 8 (fun K hK=>?_)
   go_simp
   go_at_call 194
   refine (hCM _ ((HA1.out.below ay ah).more ay ah.size)).mono ?_
   rintro e w3 ⟨rfl,hb⟩
   refine hK.out _ _ (ah.trans (hb.mono ah.size)) (fun ah=>?_)
   clear hK K hb
   refine tk 9 ah ?_
   refine tk 10 ah ?_
   refine dQ ?_
   have HF:=aj ah
   clear ah
   have HB2:=aj (HB1.out.trans (HF.out.mono HB1.out.size))
   have iD:=aj (dh.out.call HF.out)
   have HA2:=aj ((HA1.out.below ay HF.out).more ay HF.out.size)
   clear HF
   by_cases h9:x9=0
   ·have Xo:(x9 != 0)=false:=by simp [h9]
    have HS:=aj (jr HO.out HX.out ⟨HT.out,OP.out.1,OP.out.2,fun h=>absurd h9 h⟩)
    clear h9
    go_wp2_with fail
    refine dW (S:=(fun V=>Below (w3).heap.size (w3) V)) (by kernel_rfl) ((aU _ _).drew) (fun ah=>?_)
    refine tk 0 ah ?_
    refine tk 1 ah ?_ (hy:=fun w hSw=>by (try dsimp only at hSw);have k0:=iD.out.hat hSw 9 rfl;clear hSw;go_simp;try with_reducible rfl)
    refine tk 2 ah ?_
    refine tk 3 ah ?_
    refine tn 4 ah ?_
    refine tn 5 ah ?_
    refine tn 6 ah ?_
    refine tn 7 ah ?_
    refine tn 8 ah ?_
    refine tn 9 ah ?_
    refine tn 10 ah ?_
    refine tn 11 ah ?_
    refine tn 12 ah ?_
    refine tk 13 ah ?_
    refine dQ ?_
    have HF:=aj ah
    clear ah
    have gU:=aj (HB2.out.trans (HF.out.mono HB2.out.size))
    go_wp2
    go_roundw
    case rel=>exact ⟨k+1,by omega,by go_num,HS,by first | exact gU.out | exact gU.out.drew | exact fC gU.out _⟩
    case measure=>simp [intOf];omega
   ·have Xo:(x9 != 0)=true:=by simp [h9]
    have H9:=aj h9
    clear h9
    obtain ⟨b,zL⟩:∃ b,decide (uX (L.take k) ((x7,x8),x9)<0)=b:=⟨_,rfl⟩
    have nu:=aj zL
    go_wp2_with fail
    refine dW (S:=(fun V=>Below (w3).heap.size (w3) V)) (by kernel_rfl) ((aU _ _).drew) (fun ah=>?_)
    refine tk 0 ah ?_
    refine tk 1 ah ?_ (hy:=fun w hSw=>by (try dsimp only at hSw);have k0:=iD.out.hat hSw 9 rfl;clear hSw;go_simp;try with_reducible rfl)
    refine tk 2 ah ?_
    refine tk 3 ah ?_
    refine tk 4 ah ?_
    refine tk 5 ah ?_
    refine tk 6 ah ?_
    refine tk 7 ah ?_
    refine tk 8 ah ?_ (hy:=fun w hSw=>by (try dsimp only at hSw);have k0:=iD.out.hat hSw 7 rfl;have k1:=iD.out.hat hSw 8 rfl;clear hSw;go_simp;try with_reducible rfl)
    refine tk 9 ah ?_
    refine tk 10 ah ?_ (hy:=fun w hSw=>by (try dsimp only at hSw);have k0:=iD.out.hat hSw 9 rfl;clear hSw;go_simp;try with_reducible rfl)
    refine cZ 11 (fun K hK=>?_)
    go_simp
    go_at_call 195
    refine (Vj hTL.out hTN HIN.out ((HA2.out.below ay ah).more ay ah.size)).mono ?_
    rintro e w12 ⟨rfl,hb⟩
    refine hK.out _ _ (ah.trans (hb.mono ah.size)) (fun ah=>?_)
    clear hK K hb
    refine tk 12 ah ?_
    refine tk 13 ah ?_
    refine dQ ?_
    have HF:=aj ah
    clear ah
    have gU:=aj (HB2.out.trans (HF.out.mono HB2.out.size))
    cases b with
    | true=>
     have HN:=aj (iC HX.out fun h=>by have h2:=h.2.2.2 H9.out;have h3:=of_decide_eq_true nu.out;exact absurd h2 (by show ¬0≤uX (L.take k) ((x7,x8),x9);omega))
     go_wp2
     go_ret
     exact aA HN.out gU.out
    | false=>
     have HS:=aj (jr HO.out HX.out ⟨HT.out,OP.out.1,OP.out.2,fun _=>by have h3:=of_decide_eq_false nu.out;show 0≤uX (L.take k) ((x7,x8),x9);omega⟩)
     go_wp2
     go_roundw
     case rel=>exact ⟨k+1,by omega,by go_num,HS,by first | exact gU.out | exact gU.out.drew | exact fC gU.out _⟩
     case measure=>simp [intOf];omega
  ·have hdl:decide ((k:Int)<(L.length:Int))=false:=dU (by omega)
   obtain rfl:k=L.length:=by omega
   have HY:=aj (Br h96 HO.out)
   clear hB
   go_wp2
   go_ret
   exact bO HY.out HB.out
end
section
open Go.RowKit bN bP bJ bM fT
theorem aad {L:List aG}{k:Nat}{x:aG}(hsz:(Sl aI).sz L≤1048576)(hx:L[k]? = some x):(UK x).size≤1048576∧(kV x).length≤1048576:=by
 have h1:=vG (f:=aI.sz) hx hsz
 rw [Nl] at h1
 omega
theorem Kw {α:Type}{L:List α}{k:Nat}{x:α}(h:L[k]? = some x):L.take k++[x]=L.take (k+1):=by rw [List.take_add_one,h,Option.toList_some]
theorem nS {L:List aG}{a:Option Addr}{cap:Nat}{W:World}(hn:L.length≤4096)(hsz:(Sl aI).sz L≤1048576)(h:aH aI W W.heap.size L a cap) :
 Calls Tryz.prog 111 #[.slice a L.length cap] W (jW aI L W):=by
 have H:=aj h
 have ni:=aj hsz
 clear h hsz
 obtain ⟨w0,hw0⟩:∃ w,w=W.alloc (.cells #[] 72):=⟨_,rfl⟩
 have hb0:Below W.heap.size W w0:=by rw [hw0];exact (aU _ _).alloc (bK _) _
 have zT:=aj (show gX aI w0 W.heap.size 72 (.slice (some ⟨W.heap.size,0,none⟩) 0 0) [] from by rw [hw0];exact gX.made _ _ _)
 have HB0:=aj hb0
 clear hb0
 go_enter Tryz.func111,Tryz.ntmps111
 go_wp2
 rw [←hw0]
 clear hw0
 go_loopw [4,3] (fun i v wr=>∃ k:Nat,k≤L.length∧i=.int .i64 k∧Hid (gX aI wr W.heap.size 72 v (L.take k))∧Below W.heap.size W wr) (fun i _ _=>L.length-(intOf i).toNat)
 case atStart=>exact ⟨0,dX _,rfl,zT,HB0.out⟩
 case round=>
  obtain ⟨k,hk,rfl,HR,hB⟩:=hrel
  have HB:=aj hB
  have hsz:=hB.size
  obtain ⟨va,vc,hv⟩:=HR.out.isSlice
  rw [List.length_take,Nat.min_eq_left hk] at hv
  subst hv
  by_cases hlt:k<L.length
  ·obtain ⟨⟨⟨x0,x1⟩,x2,x3,x4,x5,x6,⟨x7,x8⟩,x9,x10,aR,aW,M⟩,hx⟩:=aL hlt
   have HT:=aj (Kw hx)
   have HSI:=aj (aad ni.out hx)
   obtain ⟨g,o,us,rfl,hg,hu,hr⟩:=(H.out.below ay hB).at_ hx
   obtain ⟨ba,bc,rfl,sH,gW⟩:=fu hr
   obtain ⟨e0,e1,e2,e3,e4,e5,e6,e7,e8,e9,e10,e11,e12,e13⟩:=qz (a:=o+k*14) hu rfl
   have hi0:(0:Int)≤(k:Int):=eu _
   have hi1:(k:Int)<(L.length:Int):=by omega
   have HK:=aj (sH.more cO hsz)
   have Mt:=aj gW
   clear hu hr hg hB hx sH
   go_wp2_with fail
   refine (LG Mt.out HSI.out.2 HK.out).mono ?_
   intro e w1 h
   obtain ⟨us,rfl,hu,hbC⟩:=bX h
   obtain ⟨a5,c5,T5,rfl,hT,ho,_⟩:=zH hu
   obtain ⟨w7,hw7⟩:∃ w,w=w1.alloc (.cells #[.int .i64 x0,.int .i64 x1,.int .i64 x2,.string x3,.int .i64 x4,.int .i64 x5,.int .i64 x6,.int .i64 x7,.int .i64 x8,.int .i64 x9,.int .i64 x10,.int .i64 aR,.int .i64 aW,.slice a5 M.length c5] 72):=⟨_,rfl⟩
   have hb7:Below w1.heap.size w1 w7:=by rw [hw7];exact (aU _ _).alloc (bK _) _
   have hbl:aN w7 w1.heap.size 72 #[.int .i64 x0,.int .i64 x1,.int .i64 x2,.string x3,.int .i64 x4,.int .i64 x5,.int .i64 x6,.int .i64 x7,.int .i64 x8,.int .i64 x9,.int .i64 x10,.int .i64 aR,.int .i64 aW,.slice a5 M.length c5]:=by rw [hw7];exact aN.new _ _ _
   have hbr7:Below wr.heap.size wr w7:=hbC.trans (hb7.mono hbC.size)
   have how:=ay.pQ (ay.bU hu fun q hq=>hb7.block q hq.2) (fun q hq=>(⟨hq.1,bV hq.2 hb7.size⟩:Rg wr.heap.size w7.heap.size q))
   obtain ⟨a3,c3,w8,hrun,hrow,Ma⟩:=WR HR.out hbr7 hbl how (by rw [List.length_take];omega)
   have Ah:=aj hrun
   rw [hw7] at Ah
   have OW:=aj ((HB.out.trans (hbr7.mono hsz)).trans Ma)
   have hlen:(L.take (k+1)).length=k+1:=by rw [List.length_take];omega
   rw [HT.out,hlen] at hrow Ah
   have HRW:=aj hrow
   clear hrun hrow Ma how hbr7 hbl hb7 hw7 hlen h hu hT ho hbC gW e0 e1 e2 e3 e4 e5 e6 e7 e8 e9 e10 e11 e12 e13
   go_wp2_with (at_builtin;refine dR rfl (.tmp 12) (.tmp 18) 41 rfl rfl rfl Ah.out ?_)
   go_roundw
   case rel=>exact ⟨k+1,by omega,by go_num,HRW,OW.out⟩
   case measure=>simp [intOf];omega
  ·have hdl:decide ((k:Int)<(L.length:Int))=false:=dU (by omega)
   obtain rfl:k=L.length:=by omega
   have HR2:=aj (show gX aI wr W.heap.size 72 (.slice va L.length vc) L from by have:=HR.out;rwa [List.take_length] at this)
   clear hB
   go_wp2
   go_ret
   exact HR2.out.news ay (bK _) HB.out
end
end Go.Proofs.YtlhfiapfncikdaaGreatDoor.aP
