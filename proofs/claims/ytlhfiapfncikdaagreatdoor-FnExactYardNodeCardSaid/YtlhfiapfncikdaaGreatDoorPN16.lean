import Derived.Test.YtlhfiapfncikdaaGreatDoorPN3
import Derived.Test.YtlhfiapfncikdaaGreatDoorPN9
import Derived.Test.YtlhfiapfncikdaaGreatDoorPN15
set_option linter.unusedVariables false
set_option linter.unusedSimpArgs false
set_option maxRecDepth 100000
set_option maxHeartbeats 3200000
namespace Go.Proofs.YtlhfiapfncikdaaGreatDoor
namespace aQ
section
open Go.RowKit bN bO bJ bQ
theorem acr (n:Int){b:Bool}(hb:dD n 0 1000000=b)(w:World) :
 Calls Tryz.prog 224 #[.int .i64 n] w fun e w'=>e=.returned (.bool b)∧w=w':=by
 subst hb
 exact oU n w
theorem LP (l s:Int){b:Bool}(hb:dH.rB l s=b)(w:World) :
 Calls Tryz.prog 196 #[.agg #[.int .i64 l,.int .i64 s]] w fun e w'=>e=.returned (.bool b)∧Below w.heap.size w w':=by
 subst hb
 exact (dH.iN l s w).mono fun _ _ ⟨h1,h2⟩=>⟨h1,by rw [←h2];exact (aW _ _).alloc (bK _) _⟩
theorem Q9 {L:List Int}{x:Int}(hx:L[0]? = some x):dD x 0 5=true↔okN L 0:=
 ⟨fun h y hy=>by rw [hx] at hy;obtain rfl:=fC hy;exact ⟨h,fun h=>absurd h (jH _)⟩,fun h=>(h x hx).1⟩
theorem V3 {L:List Int}{k:Nat}{x y:Int}(hx:L[k]? = some x)(hr:dD x 0 5=true)(hy:L[k+1]? = some y):dD y (x+1) 5=true↔okN L (k+1):=by
 rw [uQ] at hr ⊢
 constructor
 ·intro h z hz
  rw [hy] at hz
  obtain rfl:=fC hz
  refine ⟨uQ.2 (by omega),fun _ u hu=>?_⟩
  rw [Nat.add_sub_cancel,hx] at hu
  obtain rfl:=fC hu
  omega
 ·intro h
  obtain ⟨h1,h2⟩:=h y hy
  have h3:=h2 (Nat.succ_pos _) x (by rw [Nat.add_sub_cancel];exact hx)
  rw [uQ] at h1
  omega
theorem Li {L:List Int}{a:Option Addr}{cap:Nat}{W:World}(h:aJ I W W.heap.size L a cap) :
 Calls Tryz.prog 273 #[.slice a L.length cap] W (jf (mP L) W):=by
 have hn:L.length≤9223372036854775807:=by have h1:=h.1;have h2:=h.2.1;unfold maxLen at h2;omega
 have H:=ak h
 clear h
 go_enter Tryz.func273,Tryz.ntmps273
 go_wp2
 go_loopw [3,8] (fun l i wr=>∃ k:Nat,k≤L.length∧i=.int .i64 k∧(∃ m:Int,l=.int .i64 m∧0≤m∧m≤6∧Hid (∀ x,L[k]? = some x→(dD x m 5=true↔okN L k)))∧Hid (∀ j,j<k→okN L j)∧Below W.heap.size W wr) (fun _ i _=>L.length-(intOf i).toNat)
 case atStart=>exact ⟨0,dV _,rfl,⟨0,rfl,by omega,by omega,ak fun x hx=>Q9 hx⟩,ak fun j h=>absurd h (gZ _),aW _ _⟩
 case round=>
  obtain ⟨k,hk,rfl,⟨m,rfl,hm0,hm6,HM⟩,HA,hB⟩:=hrel
  have HB:=ak hB
  have hsz:=hB.size
  by_cases hlt:k<L.length
  ·obtain ⟨x,hx⟩:=aM hlt
   have HX:=ak hx
   obtain ⟨g,o,us,rfl,hg,hu,hr⟩:=(H.out.below cK hB).at_ hx
   obtain rfl:us = [_]:=hr
   have hc0:wr.cell? ⟨g,o+k,none⟩=some (.int .i64 x):=by simpa [show I.size=1 from rfl] using hu 0 _ rfl
   have hi0:(0:Int)≤(k:Int):=eu _
   have hi1:(k:Int)<(L.length:Int):=by omega
   clear hB hx hu
   obtain ⟨b,hb⟩:∃ b,dD x m 5=b:=⟨_,rfl⟩
   have HR:=ak hb
   clear hb
   go_wp2_with fail
   refine (oL _ _ _ HR.out _).mono ?_
   rintro e w2 ⟨rfl,rfl⟩
   cases b with
   | false=>
    have Hno:=ak (show ¬mP L from fun h=>by have:=(HM.out x HX.out).2 (h k hlt);rw [HR.out] at this;cases this)
    go_wp2
    go_ret
    exact aB Hno.out HB.out
   | true=>
    have hxb:m≤x∧x≤5:=uQ.1 HR.out
    have hx1:IntKind.i64.wrap (x+1)=x+1:=gK _ (by omega)
    have hx0:=hxb.1
    have hx5:=hxb.2
    clear hxb
    have kX:=ak (iT HA.out ((HM.out x HX.out).1 HR.out))
    have HN:=ak (fun y (hy:L[k+1]? = some y)=>V3 HX.out (uQ.2 ⟨by omega,hx5⟩) hy)
    go_wp2
    go_roundw
    case rel=>exact ⟨k+1,by omega,by go_num,⟨x+1,by go_num,by omega,by omega,HN⟩,kX,HB.out⟩
    case measure=>simp [intOf];omega
  ·have Hy:=ak (show mP L from fun i hi=>HA.out i (by omega))
   clear hB
   go_wp2
   go_ret
   exact bM Hy.out HB.out
theorem Qq {x3 x4 x5:Int}{b:Bool}(hb:(dD x3 1 6&&(dD x4 1 20&&dD x5 0 9))=b)(W:World):Calls Tryz.prog 235 #[.int .i64 x3,.int .i64 x4,.int .i64 x5] W fun e w'=>e=.returned (.bool b)∧W=w':=by
 obtain ⟨b1,h1⟩:∃ b,dD x3 1 6=b:=⟨_,rfl⟩
 obtain ⟨b2,h2⟩:∃ b,dD x4 1 20=b:=⟨_,rfl⟩
 obtain ⟨b3,h3⟩:∃ b,dD x5 0 9=b:=⟨_,rfl⟩
 rw [h1,h2,h3] at hb
 subst hb
 have H1:=ak h1
 have H2:=ak h2
 have H3:=ak h3
 clear h1 h2 h3
 go_enter Tryz.func235,Tryz.ntmps235
 go_wp2_with fail
 refine (oL _ _ _ H1.out _).mono ?_
 rintro e w2 ⟨rfl,rfl⟩
 cases b1 with
 | false=>
  go_wp2
  go_ret
  exact ⟨rfl,rfl⟩
 | true=>
  go_wp2_with fail
  refine (oL _ _ _ H2.out _).mono ?_
  rintro e w2 ⟨rfl,rfl⟩
  cases b2 with
  | false=>
   go_wp2
   go_ret
   exact ⟨rfl,rfl⟩
  | true=>
   go_wp2_with fail
   refine (oL _ _ _ H3.out _).mono ?_
   rintro e w2 ⟨rfl,rfl⟩
   go_wp2
   go_ret
   exact ⟨by simp,rfl⟩
end
section
open Go.RowKit bN bO bJ bQ eO
theorem U4 (n:Int){b:Bool}(hb:dD n 1 12=b)(w:World) :
 Calls Tryz.prog 234 #[.int .i64 n] w fun e w'=>e=.returned (.bool b)∧w=w':=by
 subst hb
 go_enter Tryz.func234,Tryz.ntmps234
 go_wp2_with (go_at_call 191;refine (lF _ _ _ _).mono ?_;rintro e w' ⟨rfl,rfl⟩)
 go_ret
 exact ⟨rfl,rfl⟩
theorem OM (n:Int){b:Bool}(hb:dD n 0 999900=b)(w:World) :
 Calls Tryz.prog 134 #[.int .i64 n] w fun e w'=>e=.returned (.bool b)∧w=w':=by
 subst hb
 go_enter Tryz.func134,Tryz.ntmps134
 go_wp2_with (go_at_call 191;refine (lF _ _ _ _).mono ?_;rintro e w' ⟨rfl,rfl⟩)
 go_ret
 exact ⟨rfl,rfl⟩
def Ki (start:Int)(L:List Int):Bool:=decide (start=0)&&decide (L.length=0)
theorem iA {start:Int}{L:List Int}:Ki start L=true↔Ew start L:=by simp [Ki,Ew]
theorem AZ (start:Int){L:List Int}{a:Option Addr}{c:Nat}{b:Bool}(hb:Ki start L=b)(hn:L.length≤9223372036854775807)(w:World) :
 Calls Tryz.prog 260 #[.int .i64 start,.slice a L.length c] w fun e w'=>e=.returned (.bool b)∧w=w':=by
 subst hb
 by_cases h1:start=0
 ·have h1':(start==0)=true:=beq_iff_eq.2 h1
  by_cases h2:L.length=0
  ·have h2':((L.length:Int)==0)=true:=beq_iff_eq.2 (by omega)
   have HE:=ak (show Ki start L=true from iA.2 ⟨h1,h2⟩)
   clear h1 h2
   go_enter Tryz.func260,Tryz.ntmps260
   go_wp2
   go_ret
   exact ⟨by rw [HE.out];rfl,rfl⟩
  ·have h2':((L.length:Int)==0)=false:=beq_eq_false_iff_ne.2 (by omega)
   have HE:=ak (show Ki start L=false from by rw [Bool.eq_false_iff,ne_eq,iA];exact fun h=>h2 h.2)
   clear h1
   go_enter Tryz.func260,Tryz.ntmps260
   go_wp2
   go_ret
   exact ⟨by rw [HE.out];rfl,rfl⟩
 ·have h1':(start==0)=false:=beq_eq_false_iff_ne.2 h1
  have HE:=ak (show Ki start L=false from by rw [Bool.eq_false_iff,ne_eq,iA];exact fun h=>h1 h.1)
  go_enter Tryz.func260,Tryz.ntmps260
  go_wp2
  go_ret
  exact ⟨by rw [HE.out];rfl,rfl⟩
theorem vg (need start:Int){L:List Int}{a:Option Addr}{c:Nat}{W:World}(h:aJ I W W.heap.size L a c) :
 Calls Tryz.prog 259 #[.int .i64 need,.int .i64 start,.slice a L.length c] W (jf (Ev need start L) W):=by
 have hn:L.length≤9223372036854775807:=by have h1:=h.1;have h2:=h.2.1;unfold maxLen at h2;omega
 have H:=ak h
 clear h
 obtain ⟨b,hb⟩:∃ b,dD start 0 1000000=b:=⟨_,rfl⟩
 have HB:=ak hb
 clear hb
 go_enter Tryz.func259,Tryz.ntmps259
 go_wp2_with fail
 refine (acr _ HB.out _).mono ?_
 rintro e w2 ⟨rfl,rfl⟩
 cases b with
 | false=>
  have HV:=ak (show ¬Ev need start L from fun h=>by have h2:=h.1;rw [HB.out] at h2;cases h2)
  go_wp2
  go_ret
  exact aB HV.out (aW _ _)
 | true=>
  by_cases hl:(L.length:Int)=need
  ·have hl':((L.length:Int)==need)=true:=beq_iff_eq.2 hl
   have HL:=ak hl
   clear hl
   go_wp2_with fail
   refine (Li H.out).mono ?_
   intro e w3 h
   obtain ⟨b,rfl,hb,hw⟩:=bq h
   have HV:=ak (show (b=true↔Ev need start L) from hb.trans ⟨fun hN=>⟨HB.out,HL.out,hN⟩,fun h=>h.2.2⟩)
   have HW:=ak hw
   clear h hb hw
   go_wp2
   go_ret
   exact ⟨b,rfl,HV.out,HW.out⟩
  ·have hl':((L.length:Int)==need)=false:=beq_eq_false_iff_ne.2 hl
   have HV:=ak (show ¬Ev need start L from fun h=>hl h.2.1)
   go_wp2
   go_ret
   exact aB HV.out (aW _ _)
theorem WO {x0 x1 x2:Int}{x3:ByteArray}{x4 x5 x6 x7 x8 x9 x10 aS aV:Int}{L:List Int}{a:Option Addr}{c:Nat}{W:World}:Calls Tryz.prog 236 #[.agg #[.int .i64 x0,.int .i64 x1,.int .i64 x2,.string x3,.int .i64 x4,.int .i64 x5,.int .i64 x6,.int .i64 x7,.int .i64 x8,.int .i64 x9,.int .i64 x10,.int .i64 aS,.int .i64 aV,.slice a L.length c]] W (jf (xQ x0 x1 x2 x7 x8 x9) W):=by
 have HB0:=ak (show Below W.heap.size W (W.alloc (.cells #[.int .i64 x0,.int .i64 x1,.int .i64 x2,.string x3,.int .i64 x4,.int .i64 x5,.int .i64 x6,.int .i64 x7,.int .i64 x8,.int .i64 x9,.int .i64 x10,.int .i64 aS,.int .i64 aV,.slice a L.length c] 72)) from (aW _ _).alloc (bK _) _)
 have gY:=ak (aO.new W 72 #[.int .i64 x0,.int .i64 x1,.int .i64 x2,.string x3,.int .i64 x4,.int .i64 x5,.int .i64 x6,.int .i64 x7,.int .i64 x8,.int .i64 x9,.int .i64 x10,.int .i64 aS,.int .i64 aV,.slice a L.length c])
 have hz0:W.heap.size≤(W.alloc (.cells #[.int .i64 x0,.int .i64 x1,.int .i64 x2,.string x3,.int .i64 x4,.int .i64 x5,.int .i64 x6,.int .i64 x7,.int .i64 x8,.int .i64 x9,.int .i64 x10,.int .i64 aS,.int .i64 aV,.slice a L.length c] 72)).heap.size:=HB0.out.size
 obtain ⟨b8,h8⟩:∃ b,dD x9 1 12=b:=⟨_,rfl⟩
 obtain ⟨b9,hh⟩:∃ b,dH.iV x7 x8 x0 x1=b:=⟨_,rfl⟩
 have H8:=ak h8
 have yF:=ak hh
 clear h8 hh
 by_cases h9:x9=0
 ·have h9':(x9==0)=true:=beq_iff_eq.2 h9
  obtain ⟨q,hq⟩:∃ q,decide (((x7,x8):Int×Int)=(0,0))=q:=⟨_,rfl⟩
  have hqq:=iK x7 x8 0 0 q hq
  have HQ:=ak hq
  have H9:=ak h9
  clear hq h9
  cases q with
  | false=>
   have HV:=ak (show ¬xQ x0 x1 x2 x7 x8 x9 from fun h=>by have h2:=h.1 H9.out;exact of_decide_eq_false HQ.out (by rw [h2.1,h2.2]))
   go_enter Tryz.func236,Tryz.ntmps236
   go_wp2
   go_ret
   exact aB HV.out HB0.out
  | true=>
   have HV:=ak (show xQ x0 x1 x2 x7 x8 x9 from ⟨fun _=>by have h2:=of_decide_eq_true HQ.out;simpa using h2,fun h=>absurd H9.out h⟩)
   go_enter Tryz.func236,Tryz.ntmps236
   go_wp2
   go_ret
   exact bM HV.out HB0.out
 ·have h9':(x9==0)=false:=beq_eq_false_iff_ne.2 h9
  have H9:=ak h9
  clear h9
  go_enter Tryz.func236,Tryz.ntmps236
  go_wp2_with fail
  refine (U4 _ H8.out _).mono ?_
  rintro e w2 ⟨rfl,rfl⟩
  cases b8 with
  | false=>
   have HV:=ak (show ¬xQ x0 x1 x2 x7 x8 x9 from fun h=>by have h2:=(h.2 H9.out).1;rw [H8.out] at h2;cases h2)
   go_wp2
   go_ret
   exact aB HV.out HB0.out
  | true=>
   go_wp2_with fail
   refine (aam _ _ _ _ yF.out _).mono ?_
   rintro e w1 ⟨rfl,hb⟩
   have cZ:=ak (gY.out.call hb)
   have HB1:=ak (HB0.out.trans (hb.mono hz0))
   have hz1:W.heap.size≤w1.heap.size:=HB1.out.size
   clear hb
   obtain ⟨p0,p1,p2,p3,p4,p5,p6,p7,p8,p9,Si,O8,Sd,JX⟩:=cZ.out.fF rfl
   cases b9 with
   | false=>
    have HV:=ak (show ¬xQ x0 x1 x2 x7 x8 x9 from fun h=>by have h2:=(h.2 H9.out).2.1;rw [yF.out] at h2;cases h2)
    go_wp2
    go_ret
    exact aB HV.out HB1.out
   | true=>
    obtain ⟨q,hq⟩:∃ q,decide (((x7,x8):Int×Int)=(x0,x1))=q:=⟨_,rfl⟩
    have hqq:=wI x7 x8 x0 x1 q hq
    have HQ:=ak hq
    clear hq
    cases q with
    | false=>
     have HV:=ak (show xQ x0 x1 x2 x7 x8 x9 from ⟨fun h=>absurd h H9.out,fun _=>⟨H8.out,yF.out,fun h=>of_decide_eq_false HQ.out (by rw [h.1.1,h.1.2])⟩⟩)
     go_wp2
     go_ret
     exact bM HV.out HB1.out
    | true=>
     by_cases hle:x9<x2
     ·have hle':decide (x9<x2)=true:=eD hle
      have HV:=ak (show xQ x0 x1 x2 x7 x8 x9 from ⟨fun h=>absurd h H9.out,fun _=>⟨H8.out,yF.out,fun h=>by have:=h.2;omega⟩⟩)
      go_wp2
      go_ret
      exact bM HV.out HB1.out
     ·have hle':decide (x9<x2)=false:=dS hle
      have HV:=ak (show ¬xQ x0 x1 x2 x7 x8 x9 from fun h=>(h.2 H9.out).2.2 ⟨by have h2:=of_decide_eq_true HQ.out;simpa using h2,by omega⟩)
      go_wp2
      go_ret
      exact aB HV.out HB1.out
theorem I4 {x0 x1 x2:Int}{x3:ByteArray}{x4 x5 x6 x7 x8 x9 x10 aS aV:Int}{L:List Int}{a:Option Addr}{c:Nat}{W:World}(h14:dD x4 1 6=true)(h:aJ I W W.heap.size L a c):Calls Tryz.prog 237 #[.agg #[.int .i64 x0,.int .i64 x1,.int .i64 x2,.string x3,.int .i64 x4,.int .i64 x5,.int .i64 x6,.int .i64 x7,.int .i64 x8,.int .i64 x9,.int .i64 x10,.int .i64 aS,.int .i64 aV,.slice a L.length c]] W (jf ((Has aS L→Ev x4 aV L)∧(¬Has aS L→Ew aV L)∧(1≤aS∧aS≤6)) W):=by
 have hn:L.length≤9223372036854775807:=by have h1:=h.1;have h2:=h.2.1;unfold maxLen at h2;omega
 have H:=ak h
 clear h
 have HB0:=ak (show Below W.heap.size W (W.alloc (.cells #[.int .i64 x0,.int .i64 x1,.int .i64 x2,.string x3,.int .i64 x4,.int .i64 x5,.int .i64 x6,.int .i64 x7,.int .i64 x8,.int .i64 x9,.int .i64 x10,.int .i64 aS,.int .i64 aV,.slice a L.length c] 72)) from (aW _ _).alloc (bK _) _)
 have gY:=ak (aO.new W 72 #[.int .i64 x0,.int .i64 x1,.int .i64 x2,.string x3,.int .i64 x4,.int .i64 x5,.int .i64 x6,.int .i64 x7,.int .i64 x8,.int .i64 x9,.int .i64 x10,.int .i64 aS,.int .i64 aV,.slice a L.length c])
 have hz0:W.heap.size≤(W.alloc (.cells #[.int .i64 x0,.int .i64 x1,.int .i64 x2,.string x3,.int .i64 x4,.int .i64 x5,.int .i64 x6,.int .i64 x7,.int .i64 x8,.int .i64 x9,.int .i64 x10,.int .i64 aS,.int .i64 aV,.slice a L.length c] 72)).heap.size:=HB0.out.size
 obtain ⟨b0,h0⟩:∃ b,Ki aV L=b:=⟨_,rfl⟩
 have H0:=ak h0
 clear h0
 have HN:=ak hn
 have HN4:=ak h14
 clear h14
 by_cases h2:aS=2
 ·have h2':(aS==2)=true:=beq_iff_eq.2 h2
  have HS:=ak (show Has aS L from .inl h2)
  have HR:=ak (show 1≤aS∧aS≤6 from by omega)
  clear h2
  go_enter Tryz.func237,Tryz.ntmps237
  go_wp2_with fail
  refine (vg x4 aV ((H.out.below cK HB0.out).more cK hz0)).mono ?_
  intro e w3 h
  obtain ⟨b,rfl,hb,hw⟩:=bq h
  have HB:=ak (HB0.out.trans (hw.mono hz0))
  have HV:=ak (show (b=true↔((Has aS L→Ev x4 aV L)∧(¬Has aS L→Ew aV L)∧(1≤aS∧aS≤6))) from hb.trans ⟨fun h=>⟨fun _=>h,fun h=>absurd HS.out h,HR.out⟩,fun h=>h.1 HS.out⟩)
  clear h hb hw
  go_wp2
  go_ret
  exact ⟨b,rfl,HV.out,HB.out⟩
 ·have h2':(aS==2)=false:=beq_eq_false_iff_ne.2 h2
  by_cases h1:aS=1
  ·have h1':(aS==1)=true:=beq_iff_eq.2 h1
   have HR:=ak (show 1≤aS∧aS≤6 from by omega)
   have HE:=ak (show Has aS L↔0<L.length from ⟨fun h=>h.elim (fun h=>absurd h h2) (fun h=>h.2),fun h=>.inr ⟨h1,h⟩⟩)
   clear h1 h2
   go_enter Tryz.func237,Tryz.ntmps237
   go_wp2_with fail
   refine (AZ aV H0.out HN.out _).mono ?_
   rintro e w2 ⟨rfl,rfl⟩
   cases b0 with
   | true=>
    have HV:=ak (show ((Has aS L→Ev x4 aV L)∧(¬Has aS L→Ew aV L)∧(1≤aS∧aS≤6)) from by have h3:=iA.1 H0.out;exact ⟨fun h=>by have h4:=HE.out.1 h;have h5:=h3.2;omega,fun _=>h3,HR.out⟩)
    go_wp2
    go_ret
    exact bM HV.out HB0.out
   | false=>
    go_wp2_with fail
    refine (vg x4 aV ((H.out.below cK HB0.out).more cK hz0)).mono ?_
    intro e w3 h
    obtain ⟨b,rfl,hb,hw⟩:=bq h
    have HB:=ak (HB0.out.trans (hw.mono hz0))
    have HV:=ak (show (b=true↔((Has aS L→Ev x4 aV L)∧(¬Has aS L→Ew aV L)∧(1≤aS∧aS≤6))) from hb.trans ⟨fun h=>⟨fun _=>h,fun h2=>by exfalso;apply h2;apply HE.out.2;by_cases hl:0<L.length;exact hl;exfalso;have h8:=h.2.1;have h9:=(dG _ _ _).1 HN4.out;omega,HR.out⟩,fun h=>h.1 (HE.out.2 (by by_cases hl:0<L.length;exact hl;exfalso;have h4:=h.2.1 (fun h5=>hl (HE.out.1 h5));have h6:=iA.2 h4;rw [H0.out] at h6;cases h6))⟩)
    clear h hb hw
    go_wp2
    go_ret
    exact ⟨b,rfl,HV.out,HB.out⟩
  ·have h1':(aS==1)=false:=beq_eq_false_iff_ne.2 h1
   have HS:=ak (show ¬Has aS L from fun h=>h.elim h2 (fun h=>h1 h.1))
   by_cases h3:aS=3
   ·have h3':(aS==3)=true:=beq_iff_eq.2 h3
    have h4':(aS==4)=false:=beq_eq_false_iff_ne.2 (by omega)
    have h5':(aS==5)=false:=beq_eq_false_iff_ne.2 (by omega)
    have h6':(aS==6)=false:=beq_eq_false_iff_ne.2 (by omega)
    have HR:=ak (show 1≤aS∧aS≤6 from by omega)
    clear h3 h1 h2
    go_enter Tryz.func237,Tryz.ntmps237
    go_wp2_with fail
    refine (AZ aV H0.out HN.out _).mono ?_
    rintro e w2 ⟨rfl,rfl⟩
    cases b0 with
    | true=>
     have HV:=ak (show ((Has aS L→Ev x4 aV L)∧(¬Has aS L→Ew aV L)∧(1≤aS∧aS≤6)) from ⟨fun h=>absurd h HS.out,fun _=>iA.1 H0.out,HR.out⟩)
     go_wp2
     go_ret
     exact bM HV.out HB0.out
    | false=>
     have HV:=ak (show ¬((Has aS L→Ev x4 aV L)∧(¬Has aS L→Ew aV L)∧(1≤aS∧aS≤6)) from fun h=>by have h6:=iA.2 (h.2.1 HS.out);rw [H0.out] at h6;cases h6)
     go_wp2
     go_ret
     exact aB HV.out HB0.out
   have h3':(aS==3)=false:=beq_eq_false_iff_ne.2 h3
   by_cases h4:aS=4
   ·have h4':(aS==4)=true:=beq_iff_eq.2 h4
    have h5':(aS==5)=false:=beq_eq_false_iff_ne.2 (by omega)
    have h6':(aS==6)=false:=beq_eq_false_iff_ne.2 (by omega)
    have HR:=ak (show 1≤aS∧aS≤6 from by omega)
    clear h4 h1 h2
    go_enter Tryz.func237,Tryz.ntmps237
    go_wp2_with fail
    refine (AZ aV H0.out HN.out _).mono ?_
    rintro e w2 ⟨rfl,rfl⟩
    cases b0 with
    | true=>
     have HV:=ak (show ((Has aS L→Ev x4 aV L)∧(¬Has aS L→Ew aV L)∧(1≤aS∧aS≤6)) from ⟨fun h=>absurd h HS.out,fun _=>iA.1 H0.out,HR.out⟩)
     go_wp2
     go_ret
     exact bM HV.out HB0.out
    | false=>
     have HV:=ak (show ¬((Has aS L→Ev x4 aV L)∧(¬Has aS L→Ew aV L)∧(1≤aS∧aS≤6)) from fun h=>by have h6:=iA.2 (h.2.1 HS.out);rw [H0.out] at h6;cases h6)
     go_wp2
     go_ret
     exact aB HV.out HB0.out
   have h4':(aS==4)=false:=beq_eq_false_iff_ne.2 h4
   by_cases h5:aS=5
   ·have h5':(aS==5)=true:=beq_iff_eq.2 h5
    have h6':(aS==6)=false:=beq_eq_false_iff_ne.2 (by omega)
    have HR:=ak (show 1≤aS∧aS≤6 from by omega)
    clear h5 h1 h2
    go_enter Tryz.func237,Tryz.ntmps237
    go_wp2_with fail
    refine (AZ aV H0.out HN.out _).mono ?_
    rintro e w2 ⟨rfl,rfl⟩
    cases b0 with
    | true=>
     have HV:=ak (show ((Has aS L→Ev x4 aV L)∧(¬Has aS L→Ew aV L)∧(1≤aS∧aS≤6)) from ⟨fun h=>absurd h HS.out,fun _=>iA.1 H0.out,HR.out⟩)
     go_wp2
     go_ret
     exact bM HV.out HB0.out
    | false=>
     have HV:=ak (show ¬((Has aS L→Ev x4 aV L)∧(¬Has aS L→Ew aV L)∧(1≤aS∧aS≤6)) from fun h=>by have h6:=iA.2 (h.2.1 HS.out);rw [H0.out] at h6;cases h6)
     go_wp2
     go_ret
     exact aB HV.out HB0.out
   have h5':(aS==5)=false:=beq_eq_false_iff_ne.2 h5
   by_cases h6:aS=6
   ·have h6':(aS==6)=true:=beq_iff_eq.2 h6
    have HR:=ak (show 1≤aS∧aS≤6 from by omega)
    clear h6 h1 h2
    go_enter Tryz.func237,Tryz.ntmps237
    go_wp2_with fail
    refine (AZ aV H0.out HN.out _).mono ?_
    rintro e w2 ⟨rfl,rfl⟩
    cases b0 with
    | true=>
     have HV:=ak (show ((Has aS L→Ev x4 aV L)∧(¬Has aS L→Ew aV L)∧(1≤aS∧aS≤6)) from ⟨fun h=>absurd h HS.out,fun _=>iA.1 H0.out,HR.out⟩)
     go_wp2
     go_ret
     exact bM HV.out HB0.out
    | false=>
     have HV:=ak (show ¬((Has aS L→Ev x4 aV L)∧(¬Has aS L→Ew aV L)∧(1≤aS∧aS≤6)) from fun h=>by have h6:=iA.2 (h.2.1 HS.out);rw [H0.out] at h6;cases h6)
     go_wp2
     go_ret
     exact aB HV.out HB0.out
   have h6':(aS==6)=false:=beq_eq_false_iff_ne.2 h6
   have HR:=ak (show ¬(1≤aS∧aS≤6) from by omega)
   clear h1 h2 h3 h4 h5 h6
   have HV:=ak (show ¬((Has aS L→Ev x4 aV L)∧(¬Has aS L→Ew aV L)∧(1≤aS∧aS≤6)) from fun h=>HR.out h.2.2)
   go_enter Tryz.func237,Tryz.ntmps237
   go_wp2
   go_ret
   exact aB HV.out HB0.out
theorem Vs {x3 x4 x5:Int}{b:Bool}(hb:(dD x3 1 6&&(dD x4 1 20&&dD x5 0 9))=b)(W:World):Calls Tryz.prog 235 #[.int .i64 x3,.int .i64 x4,.int .i64 x5] W fun e w'=>e=.returned (.bool b)∧W=w':=Qq hb W
theorem VA (x0 x1 x2:Int)(x3:ByteArray)(x4 x5 x6 x7 x8 x9 x10 aS aV:Int)(L:List Int)  : bZ ((x0,x1),x2,x3,x4,x5,x6,(x7,x8),x9,x10,aS,aV,L)↔dH.rB x0 x1=true∧dD x2 1 12=true∧j4 x3=true∧(dD x4 1 6&&(dD x5 1 20&&dD x6 0 9))=true∧xQ x0 x1 x2 x7 x8 x9∧dD x10 0 999900=true∧((Has aS L→Ev x4 aV L)∧(¬Has aS L→Ew aV L)∧(1≤aS∧aS≤6)):=by
 show _∧_∧_∧_∧_∧_∧_∧_∧_∧_∧_↔_
 simp only [Bool.and_eq_true]
 constructor
 ·rintro ⟨h0,h1,h2,h3,h4,h5,h6,h7,h8,h9,h10⟩
  exact ⟨h0,h1,h2,⟨h3,h4,h5⟩,h8,h6,h9,h10,(dG _ _ _).1 h7⟩
 ·rintro ⟨h0,h1,h2,⟨h3,h4,h5⟩,h8,h6,h9,h10,h7⟩
  exact ⟨h0,h1,h2,h3,h4,h5,h6,(dG _ _ _).2 h7,h8,h9,h10⟩
theorem KM {x0 x1 x2:Int}{x3:ByteArray}{x4 x5 x6 x7 x8 x9 x10 aS aV:Int}{L:List Int}{a:Option Addr}{c:Nat}{W:World}(fH:x3.size≤maxLen)(h:aJ I W W.heap.size L a c):Calls Tryz.prog 193 #[.agg #[.int .i64 x0,.int .i64 x1,.int .i64 x2,.string x3,.int .i64 x4,.int .i64 x5,.int .i64 x6,.int .i64 x7,.int .i64 x8,.int .i64 x9,.int .i64 x10,.int .i64 aS,.int .i64 aV,.slice a L.length c]] W (jf (bZ ((x0,x1),x2,x3,x4,x5,x6,(x7,x8),x9,x10,aS,aV,L)) W):=by
 have hn:L.length≤9223372036854775807:=by have h1:=h.1;have h2:=h.2.1;unfold maxLen at h2;omega
 have H:=ak h
 clear h
 have MU:=ak fH
 unfold maxLen at fH
 have HB0:=ak (show Below W.heap.size W (W.alloc (.cells #[.int .i64 x0,.int .i64 x1,.int .i64 x2,.string x3,.int .i64 x4,.int .i64 x5,.int .i64 x6,.int .i64 x7,.int .i64 x8,.int .i64 x9,.int .i64 x10,.int .i64 aS,.int .i64 aV,.slice a L.length c] 72)) from (aW _ _).alloc (bK _) _)
 have gY:=ak (aO.new W 72 #[.int .i64 x0,.int .i64 x1,.int .i64 x2,.string x3,.int .i64 x4,.int .i64 x5,.int .i64 x6,.int .i64 x7,.int .i64 x8,.int .i64 x9,.int .i64 x10,.int .i64 aS,.int .i64 aV,.slice a L.length c])
 have hz0:W.heap.size≤(W.alloc (.cells #[.int .i64 x0,.int .i64 x1,.int .i64 x2,.string x3,.int .i64 x4,.int .i64 x5,.int .i64 x6,.int .i64 x7,.int .i64 x8,.int .i64 x9,.int .i64 x10,.int .i64 aS,.int .i64 aV,.slice a L.length c] 72)).heap.size:=HB0.out.size
 have JO:=ak (VA x0 x1 x2 x3 x4 x5 x6 x7 x8 x9 x10 aS aV L)
 obtain ⟨b0,h0⟩:∃ b,dH.rB x0 x1=b:=⟨_,rfl⟩
 have H0:=ak h0
 clear h0
 obtain ⟨b1,h1⟩:∃ b,dD x2 1 12=b:=⟨_,rfl⟩
 have H1:=ak h1
 clear h1
 obtain ⟨b2,h2⟩:∃ b,j4 x3=b:=⟨_,rfl⟩
 have H2:=ak h2
 clear h2
 obtain ⟨b3,h3⟩:∃ b,(dD x4 1 6&&(dD x5 1 20&&dD x6 0 9))=b:=⟨_,rfl⟩
 have H3:=ak h3
 clear h3
 obtain ⟨b5,h5⟩:∃ b,dD x10 0 999900=b:=⟨_,rfl⟩
 have H5:=ak h5
 clear h5
 go_enter Tryz.func193,Tryz.ntmps193
 go_wp2_with fail
 refine (LP x0 x1 H0.out _).mono ?_
 rintro e w1 ⟨rfl,hb⟩
 have cZ:=ak (gY.out.call hb)
 have HB1:=ak (HB0.out.trans (hb.mono hz0))
 have hz1:W.heap.size≤w1.heap.size:=HB1.out.size
 clear hb
 obtain ⟨p0,p1,p2,p3,p4,p5,p6,p7,p8,p9,Si,O8,Sd,JX⟩:=cZ.out.fF rfl
 clear gY HB0
 cases b0 with
 | false=>
  have HV:=ak (show ¬bZ ((x0,x1),x2,x3,x4,x5,x6,(x7,x8),x9,x10,aS,aV,L) from fun h=>by have h2:=(JO.out.1 h).1;rw [H0.out] at h2;cases h2)
  go_wp2
  go_ret
  exact aB HV.out HB1.out
 | true=>
  go_wp2_with fail
  refine (U4 _ H1.out _).mono ?_
  rintro e w2 ⟨rfl,rfl⟩
  cases b1 with
  | false=>
   have HV:=ak (show ¬bZ ((x0,x1),x2,x3,x4,x5,x6,(x7,x8),x9,x10,aS,aV,L) from fun h=>by have h2:=(JO.out.1 h).2.1;rw [H1.out] at h2;cases h2)
   go_wp2
   go_ret
   exact aB HV.out HB1.out
  | true=>
   go_wp2_with fail
   refine (V7 MU.out H2.out _).mono ?_
   rintro e w2 ⟨rfl,rfl⟩
   cases b2 with
   | false=>
    have HV:=ak (show ¬bZ ((x0,x1),x2,x3,x4,x5,x6,(x7,x8),x9,x10,aS,aV,L) from fun h=>by have h2:=(JO.out.1 h).2.2.1;rw [H2.out] at h2;cases h2)
    go_wp2
    go_ret
    exact aB HV.out HB1.out
   | true=>
    go_wp2_with fail
    refine (Vs H3.out _).mono ?_
    rintro e w2 ⟨rfl,rfl⟩
    cases b3 with
    | false=>
     have HV:=ak (show ¬bZ ((x0,x1),x2,x3,x4,x5,x6,(x7,x8),x9,x10,aS,aV,L) from fun h=>by have h2:=(JO.out.1 h).2.2.2.1;rw [H3.out] at h2;cases h2)
     go_wp2
     go_ret
     exact aB HV.out HB1.out
    | true=>
     have HN4:=ak (show dD x4 1 6=true from by have h2:=H3.out;simp only [Bool.and_eq_true] at h2;exact h2.1)
     go_wp2_with fail
     refine (WO (x3:=x3) (L:=L) (a:=a) (c:=c)).mono ?_
     intro e w2 h
     obtain ⟨d,rfl,hd,hb⟩:=bq h
     have HD:=ak hd
     clear h hd
     have iD:=ak (cZ.out.call hb)
     have HB2:=ak (HB1.out.trans (hb.mono hz1))
     have hz2:W.heap.size≤w2.heap.size:=HB2.out.size
     clear hb
     clear p0 p1 p2 p3 p4 p5 p6 p7 p8 p9 Si O8 Sd JX
     obtain ⟨p0,p1,p2,p3,p4,p5,p6,p7,p8,p9,Si,O8,Sd,JX⟩:=iD.out.fF rfl
     cases d with
     | false=>
      have HV:=ak (show ¬bZ ((x0,x1),x2,x3,x4,x5,x6,(x7,x8),x9,x10,aS,aV,L) from fun h=>by have h2:=HD.out.2 (JO.out.1 h).2.2.2.2.1;cases h2)
      go_wp2
      go_ret
      exact aB HV.out HB2.out
     | true=>
      go_wp2_with fail
      refine (OM _ H5.out _).mono ?_
      rintro e w3 ⟨rfl,rfl⟩
      cases b5 with
      | false=>
       have HV:=ak (show ¬bZ ((x0,x1),x2,x3,x4,x5,x6,(x7,x8),x9,x10,aS,aV,L) from fun h=>by have h2:=(JO.out.1 h).2.2.2.2.2.1;rw [H5.out] at h2;cases h2)
       go_wp2
       go_ret
       exact aB HV.out HB2.out
      | true=>
       go_wp2_with fail
       refine (I4 (x3:=x3) HN4.out ((H.out.below cK HB2.out).more cK hz2)).mono ?_
       intro e w4 h
       obtain ⟨b,rfl,hb,hw⟩:=bq h
       have HB:=ak (HB2.out.trans (hw.mono hz2))
       have HV:=ak (show (b=true↔bZ ((x0,x1),x2,x3,x4,x5,x6,(x7,x8),x9,x10,aS,aV,L)) from hb.trans ⟨fun hS=>JO.out.2 ⟨H0.out,H1.out,H2.out,H3.out,(by simpa using HD.out),H5.out,hS⟩,fun h=>(JO.out.1 h).2.2.2.2.2.2⟩)
       clear h hb hw
       go_wp2
       go_ret
       exact ⟨b,rfl,HV.out,HB.out⟩
theorem Ii:∃ i,Tryz.prog.info? 72=some i∧i.zero=some (.agg #[.int .i64 0,.int .i64 0,.int .i64 0,.string ⟨#[]⟩,.int .i64 0,.int .i64 0,.int .i64 0,.int .i64 0,.int .i64 0,.int .i64 0,.int .i64 0,.int .i64 0,.int .i64 0,.slice none 0 0])∧i.size=14∧i.bytes=136:=xX (by kernel_rfl)
theorem Xf {w w':World}{lo:Nat}{v:Value}{L:List aF}(h:gW aI w lo 72 v L)(hb:Below w.heap.size w w'){x:aF}{us:List Value}{blk:Nat}(hc:aO w' blk 72 us.toArray)(hx:aI.ow w' (Rg w.heap.size w'.heap.size) x us)(hL:L.length≤4096) :
 ∃ a' c' w2,(Builtin.append_ #[41,41] 41 #[v,.slice (some ⟨blk,0,none⟩) 1 1]).run Tryz.prog w'=.ok (.slice a' (L++[x]).length c') w2∧gW aI w2 lo 72 (.slice a' (L++[x]).length c') (L++[x])∧Below lo w' w2:=by
 obtain ⟨i,hi',hz,hs,hby⟩:=Ii
 exact h.app aA hb Tryz.underlying41 hi' hz hs hby rfl (by decide) (us:=us) (fun j u hj=>hc.at_ j (by simpa using hj)) hx (by unfold maxLen;omega) (by omega)
theorem gW.rd {α:Type}{E:Rp α}(hE:Ok E){w:World}{lo:Nat}{T:TypeId}{a:Option Addr}{n c:Nat}{L:List α}(h:gW E w lo T (.slice a n c) L):n=L.length∧aJ E w w.heap.size L a c:=by
 obtain ⟨S,h⟩:=h
 obtain ⟨a',c',e,ho⟩:=h.done hE
 cases e
 exact ⟨rfl,ho.rd hE fun k hk=>hk.2⟩
end
section
open Go.ChangeShapes Go.WideShapes Go.ChangeAt Go.RowKit Go.Joins Go.Deep bN bO
theorem II:Tryz.prog.cellsOf 9=1:=by kernel_rfl
theorem BJ:zQ St 9:=fun enc W fuel cs y h=>by
 obtain ⟨s,rfl,_,hw⟩:=DataW.trod_string Tryz.underlying9 h
 exact ⟨s,rfl,hw⟩
theorem Ho {H:Type}{enc:TypeId×Value→H}{W:World}{base:Nat}{v:Value}{d:DataW H}{p:List MemPlace}(o:Value.okWide Tryz.prog W .any base 2 v)(h:DataW.Trod enc Tryz.prog W 0 (fun _=>true) true 2 v d p):∃ q:Int,v=.int .i64 q:=by
 obtain ⟨a0,rfl,rfl,rfl,w0⟩:=open_int Tryz.underlying2 o h
 exact ⟨a0,rfl⟩
theorem aaO:Tryz.prog.cellsOf 114=4:=by kernel_rfl
theorem ZP:zQ bC 114:=fun enc W fuel cs y h=>by
 obtain ⟨xs,n,_,_,hl,hlen,hf⟩:=DataW.trod_struct Tryz.underlying114 h
 rw [aaO] at hl
 match cs,hl with
 | [c0,c1,c2,c3],_=>
  have e2:xs.length=3:=hlen
  match xs,e2 with
  | [y0,y1,y2],_=>
   have g0:=qJ hf 0 33 0 2 rfl nQ
   have g1:=qJ hf 1 9 2 1 rfl II
   have g2:=qJ hf 2 2 3 1 rfl fO
   obtain ⟨d0,h0⟩:=kD enc W n [c0,c1] y0 g0
   obtain ⟨d1,h1⟩:=BJ enc W n [c2] y1 g1
   obtain ⟨d2,h2⟩:=fM enc W n [c3] y2 g2
   exact ⟨(d0,d1,d2),⟨[c0,c1],[c2,c3],rfl,h0,⟨[c2],[c3],rfl,h1,h2⟩⟩⟩
theorem ab9:Tryz.prog.cellsOf 29=1:=by kernel_rfl
theorem VU:zQ (Sl bC) 29:=pO ZP (by decide) Tryz.underlying29 aaO
end
section
open Go.RowKit bN bO
theorem Wd {k Sj:Int}{L0:List (Int)}(Kk:jC I L0 (k+1+1+1+1+1+1+1+1+1+1+1+1+1) Sj):aI.mm ((k,k+1),k+1+1,(jv (k+1+1+1)),k+1+1+1+1,k+1+1+1+1+1,k+1+1+1+1+1+1,(k+1+1+1+1+1+1+1,k+1+1+1+1+1+1+1+1),k+1+1+1+1+1+1+1+1+1,k+1+1+1+1+1+1+1+1+1+1,k+1+1+1+1+1+1+1+1+1+1+1,k+1+1+1+1+1+1+1+1+1+1+1+1,L0) k (Sj):=by
 dsimp only [aI,av,St,Pr,I,atom,Sl]
 exact ⟨k+1+1,⟨k+1,⟨by omega,by omega⟩,⟨by omega,by omega⟩⟩,⟨k+1+1+1,⟨by omega,by omega⟩,⟨k+1+1+1+1,⟨rfl,by omega⟩,⟨k+1+1+1+1+1,⟨by omega,by omega⟩,⟨k+1+1+1+1+1+1,⟨by omega,by omega⟩,⟨k+1+1+1+1+1+1+1,⟨by omega,by omega⟩,⟨k+1+1+1+1+1+1+1+1+1,⟨k+1+1+1+1+1+1+1+1,⟨by omega,by omega⟩,⟨by omega,by omega⟩⟩,⟨k+1+1+1+1+1+1+1+1+1+1,⟨by omega,by omega⟩,⟨k+1+1+1+1+1+1+1+1+1+1+1,⟨by omega,by omega⟩,⟨k+1+1+1+1+1+1+1+1+1+1+1+1,⟨by omega,by omega⟩,⟨k+1+1+1+1+1+1+1+1+1+1+1+1+1,⟨by omega,by omega⟩,Kk⟩⟩⟩⟩⟩⟩⟩⟩⟩⟩⟩
theorem Wm {k k':Int}{x0:Int}{x1:Int}{x2:Int}{x3:ByteArray}{x4:Int}{x5:Int}{x6:Int}{x7:Int}{x8:Int}{x9:Int}{x10:Int}{aS:Int}{aV:Int}{L0:List (Int)}(h:aI.mm ((x0,x1),x2,x3,x4,x5,x6,(x7,x8),x9,x10,aS,aV,L0) k k'):∃ Sj,x0=k∧x1=k+1∧x2=k+1+1∧x3=jv (k+1+1+1)∧x4=k+1+1+1+1∧x5=k+1+1+1+1+1∧x6=k+1+1+1+1+1+1∧x7=k+1+1+1+1+1+1+1∧x8=k+1+1+1+1+1+1+1+1∧x9=k+1+1+1+1+1+1+1+1+1∧x10=k+1+1+1+1+1+1+1+1+1+1∧aS=k+1+1+1+1+1+1+1+1+1+1+1∧aV=k+1+1+1+1+1+1+1+1+1+1+1+1∧jC I L0 (k+1+1+1+1+1+1+1+1+1+1+1+1+1) Sj∧k'=Sj:=by
 dsimp only [aI,av,St,Pr,I,atom,Sl] at h
 obtain ⟨z1,h1,g1⟩:=h
 obtain ⟨z2,h2,g2⟩:=h1
 obtain ⟨e0,f0⟩:=h2
 have e0:x0=_:=e0
 obtain ⟨e1,f1⟩:=g2
 have e1:x1=_:=e1
 obtain ⟨z3,h3,g3⟩:=g1
 obtain ⟨e2,f2⟩:=h3
 have e2:x2=_:=e2
 obtain ⟨z4,h4,g4⟩:=g3
 obtain ⟨e3,f3⟩:=h4
 have e3:x3=_:=e3
 obtain ⟨z5,h5,g5⟩:=g4
 obtain ⟨e4,f4⟩:=h5
 have e4:x4=_:=e4
 obtain ⟨z6,h6,g6⟩:=g5
 obtain ⟨e5,f5⟩:=h6
 have e5:x5=_:=e5
 obtain ⟨z7,h7,g7⟩:=g6
 obtain ⟨e6,f6⟩:=h7
 have e6:x6=_:=e6
 obtain ⟨z8,h8,g8⟩:=g7
 obtain ⟨z9,h9,g9⟩:=h8
 obtain ⟨e7,f7⟩:=h9
 have e7:x7=_:=e7
 obtain ⟨e8,f8⟩:=g9
 have e8:x8=_:=e8
 obtain ⟨z10,h10,g10⟩:=g8
 obtain ⟨e9,f9⟩:=h10
 have e9:x9=_:=e9
 obtain ⟨z11,h11,g11⟩:=g10
 obtain ⟨e10,f10⟩:=h11
 have e10:x10=_:=e10
 obtain ⟨z12,h12,g12⟩:=g11
 obtain ⟨e11,f11⟩:=h12
 have e11:aS=_:=e11
 obtain ⟨z13,h13,g13⟩:=g12
 obtain ⟨e12,f12⟩:=h13
 have e12:aV=_:=e12
 have Kk:jC I L0 _ _:=g13
 exact ⟨_,by omega,by omega,by omega,by rw [e3];exact congrArg jv (by omega),by omega,by omega,by omega,by omega,by omega,by omega,by omega,by omega,by omega,O1 Kk (by omega) rfl,by omega⟩
theorem sJ:Mn aI:=(jV eY (jV pG (jV aa0 (jV pG (jV pG (jV pG (jV eY (jV pG (jV pG (jV pG (jV pG (AU pG))))))))))))
theorem ach:(aI).size=14:=rfl
theorem Lp {L:List (aF)}{a:Option Addr}{cap:Nat}{W:World}{S:Nat→Prop}{k:Int}(h0:0≤k)(h1:k+(bD (aI).cm L:Nat)≤4611686018427387904)(hS:∀ i,S i→i<W.heap.size)(h:bH aI W S L a cap):Calls Tryz.prog 45 #[.slice a L.length cap,.int .i64 k] W (jD aI S L a cap k W):=by
 have hcap:=h.1
 have hmax:=h.2.1
 have hn:L.length≤9223372036854775807:=by have h2:=h.2.1;unfold maxLen at h2;omega
 have H:=ak h
 have HCAP:=ak hcap
 have qP:=ak hmax
 clear h hcap hmax
 rcases Nat.eq_zero_or_pos L.length with hz | hpos
 ·have HR:=ak (jD.none_ (k:=k) H.out hz)
  have HZ:=ak hz
  rw [hz]
  clear hz
  go_enter Tryz.func45,Tryz.ntmps45
  go_wp2
  go_loopw [5,1] (fun i q wr=>i=.int .i64 0∧q=.int .i64 k∧wr=W) (fun i _ _=>0)
  case atStart=>exact ⟨rfl,rfl,rfl⟩
  case round=>
   obtain ⟨rfl,rfl,rfl⟩:=hrel
   go_wp2
   go_ret
   exact HR.out
 ·obtain ⟨g,Sf,rfl,hrow⟩:=H.out.row hpos
  have HM:=ak (xG.start (k:=k) hrow)
  clear hrow
  go_enter Tryz.func45,Tryz.ntmps45
  go_wp2
  go_loopw [5,1] (fun i q wr=>∃ j:Nat,j≤L.length∧i=.int .i64 j∧∃ (M:List (aF)) (z:Int),q=.int .i64 z∧xG aI W wr S L g Sf k z j M) (fun i _ _=>L.length-(intOf i).toNat)
  case atStart=>exact ⟨0,dV _,rfl,_,_,rfl,HM.out⟩
  case round=>
   obtain ⟨j,hj,rfl,M,z,rfl,hM⟩:=hrel
   have je:=ak hM
   have aj:∀ i,S i→i<wr.heap.size:=fun i hi=>bV (hS i hi) hM.off.size
   have Aa:=ak aj
   by_cases hlt:j<L.length
   ·obtain ⟨⟨⟨x0,x1⟩,x2,x3,x4,x5,x6,⟨x7,x8⟩,x9,x10,aS,aV,L0⟩,hx⟩:=aM hlt
    have HX:=ak hx
    have hcm:=fB (aI).cm hx
    have hle:=dh (aI).cm L (j+1)
    have qL:=hM.num
    obtain ⟨us,hu,hr⟩:=hM.el hx
    obtain ⟨a0,c0,T0,rfl,ts0,dY,fH⟩:=nP hr
    have hgl:g<wr.heap.size:=aj g hM.row.own
    have hi0:(0:Int)≤(j:Int):=eu _
    have hi1:(j:Int)<(L.length:Int):=by omega
    have hz0:0≤z:=by omega
    obtain ⟨e0,e1,e2,e3,e4,e5,e6,e7,e8,e9,e10,e11,e12,e13⟩:=kY (a:=j*14) hu rfl
    have s0:=hM.row.soft (j*14)
    have s1:=hM.row.soft (j*14+1)
    have s2:=hM.row.soft (j*14+2)
    have s3:=hM.row.soft (j*14+3)
    have s4:=hM.row.soft (j*14+4)
    have s5:=hM.row.soft (j*14+5)
    have s6:=hM.row.soft (j*14+6)
    have s7:=hM.row.soft (j*14+7)
    have s8:=hM.row.soft (j*14+8)
    have s9:=hM.row.soft (j*14+9)
    have s10:=hM.row.soft (j*14+10)
    have s11:=hM.row.soft (j*14+11)
    have s12:=hM.row.soft (j*14+12)
    have s13:=hM.row.soft (j*14+13)
    have hcx:aI.cm ((x0,x1),x2,x3,x4,x5,x6,(x7,x8),x9,x10,aS,aV,L0)=13+bD (I).cm L0:=by first | (simp only [aI,av,av,Pr,I,St,atom,Sl];done) | (simp only [aI,av,av,Pr,I,St,atom,Sl];omega)
    rw [hcm,hcx] at hle
    have hb1:z+((13+bD (I).cm L0:Nat):Int)≤4611686018427387904:=by omega
    have hne:¬Sf j g:=fun hg=>(je.out.row.sub j g hg).2 rfl
    have fI:=ak dY
    have J3:=ak ts0
    have Pm:=ak (ni.refl wr g (j*14) ((j+1)*14) (Sf j))
    have J7:=ak (Off.refl S wr)
    clear hM aj hx hu hcm hle qL dY ts0
    have hc:=dn g [.int .i64 (z),.int .i64 (z+1),.int .i64 (z+1+1)] wr (j*14) (fun p hp=>by
     match p,hp with
     | 0,_=>exact ⟨_,by simpa [Nat.add_assoc] using e0⟩
     | 1,_=>exact ⟨_,by simpa [Nat.add_assoc] using e1⟩
     | 2,_=>exact ⟨_,by simpa [Nat.add_assoc] using e2⟩
     | _+3,hp=>simp at hp;omega)
    have d0:(putCells wr g (j*14) [.int .i64 (z),.int .i64 (z+1),.int .i64 (z+1+1)]).cell? ⟨g,j*14,none⟩=some (.int .i64 (z)):=by simpa [Nat.add_assoc] using hc 0 _ rfl
    have d1:(putCells wr g (j*14) [.int .i64 (z),.int .i64 (z+1),.int .i64 (z+1+1)]).cell? ⟨g,j*14+1,none⟩=some (.int .i64 (z+1)):=by simpa [Nat.add_assoc] using hc 1 _ rfl
    have d2:(putCells wr g (j*14) [.int .i64 (z),.int .i64 (z+1),.int .i64 (z+1+1)]).cell? ⟨g,j*14+2,none⟩=some (.int .i64 (z+1+1)):=by simpa [Nat.add_assoc] using hc 2 _ rfl
    have d3:(putCells wr g (j*14) [.int .i64 (z),.int .i64 (z+1),.int .i64 (z+1+1)]).cell? ⟨g,j*14+3,none⟩=some (.string x3):=(bF g _ wr _ (by first | (simp;done) | (simp;omega))).trans e3
    have d4:(putCells wr g (j*14) [.int .i64 (z),.int .i64 (z+1),.int .i64 (z+1+1)]).cell? ⟨g,j*14+4,none⟩=some (.int .i64 x4):=(bF g _ wr _ (by first | (simp;done) | (simp;omega))).trans e4
    have d5:(putCells wr g (j*14) [.int .i64 (z),.int .i64 (z+1),.int .i64 (z+1+1)]).cell? ⟨g,j*14+5,none⟩=some (.int .i64 x5):=(bF g _ wr _ (by first | (simp;done) | (simp;omega))).trans e5
    have d6:(putCells wr g (j*14) [.int .i64 (z),.int .i64 (z+1),.int .i64 (z+1+1)]).cell? ⟨g,j*14+6,none⟩=some (.int .i64 x6):=(bF g _ wr _ (by first | (simp;done) | (simp;omega))).trans e6
    have d7:(putCells wr g (j*14) [.int .i64 (z),.int .i64 (z+1),.int .i64 (z+1+1)]).cell? ⟨g,j*14+7,none⟩=some (.int .i64 x7):=(bF g _ wr _ (by first | (simp;done) | (simp;omega))).trans e7
    have d8:(putCells wr g (j*14) [.int .i64 (z),.int .i64 (z+1),.int .i64 (z+1+1)]).cell? ⟨g,j*14+8,none⟩=some (.int .i64 x8):=(bF g _ wr _ (by first | (simp;done) | (simp;omega))).trans e8
    have d9:(putCells wr g (j*14) [.int .i64 (z),.int .i64 (z+1),.int .i64 (z+1+1)]).cell? ⟨g,j*14+9,none⟩=some (.int .i64 x9):=(bF g _ wr _ (by first | (simp;done) | (simp;omega))).trans e9
    have XL:(putCells wr g (j*14) [.int .i64 (z),.int .i64 (z+1),.int .i64 (z+1+1)]).cell? ⟨g,j*14+10,none⟩=some (.int .i64 x10):=(bF g _ wr _ (by first | (simp;done) | (simp;omega))).trans e10
    have XK:(putCells wr g (j*14) [.int .i64 (z),.int .i64 (z+1),.int .i64 (z+1+1)]).cell? ⟨g,j*14+11,none⟩=some (.int .i64 aS):=(bF g _ wr _ (by first | (simp;done) | (simp;omega))).trans e11
    have MF:(putCells wr g (j*14) [.int .i64 (z),.int .i64 (z+1),.int .i64 (z+1+1)]).cell? ⟨g,j*14+12,none⟩=some (.int .i64 aV):=(bF g _ wr _ (by first | (simp;done) | (simp;omega))).trans e12
    have Sr:(putCells wr g (j*14) [.int .i64 (z),.int .i64 (z+1),.int .i64 (z+1+1)]).cell? ⟨g,j*14+13,none⟩=some (.slice a0 L0.length c0):=(bF g _ wr _ (by first | (simp;done) | (simp;omega))).trans e13
    have t0:(putCells wr g (j*14) [.int .i64 (z),.int .i64 (z+1),.int .i64 (z+1+1)]).frozen? ⟨g,j*14,none⟩=false:=(aH g _ _ wr _).trans s0
    have t1:(putCells wr g (j*14) [.int .i64 (z),.int .i64 (z+1),.int .i64 (z+1+1)]).frozen? ⟨g,j*14+1,none⟩=false:=(aH g _ _ wr _).trans s1
    have t2:(putCells wr g (j*14) [.int .i64 (z),.int .i64 (z+1),.int .i64 (z+1+1)]).frozen? ⟨g,j*14+2,none⟩=false:=(aH g _ _ wr _).trans s2
    have t3:(putCells wr g (j*14) [.int .i64 (z),.int .i64 (z+1),.int .i64 (z+1+1)]).frozen? ⟨g,j*14+3,none⟩=false:=(aH g _ _ wr _).trans s3
    have t4:(putCells wr g (j*14) [.int .i64 (z),.int .i64 (z+1),.int .i64 (z+1+1)]).frozen? ⟨g,j*14+4,none⟩=false:=(aH g _ _ wr _).trans s4
    have t5:(putCells wr g (j*14) [.int .i64 (z),.int .i64 (z+1),.int .i64 (z+1+1)]).frozen? ⟨g,j*14+5,none⟩=false:=(aH g _ _ wr _).trans s5
    have t6:(putCells wr g (j*14) [.int .i64 (z),.int .i64 (z+1),.int .i64 (z+1+1)]).frozen? ⟨g,j*14+6,none⟩=false:=(aH g _ _ wr _).trans s6
    have t7:(putCells wr g (j*14) [.int .i64 (z),.int .i64 (z+1),.int .i64 (z+1+1)]).frozen? ⟨g,j*14+7,none⟩=false:=(aH g _ _ wr _).trans s7
    have t8:(putCells wr g (j*14) [.int .i64 (z),.int .i64 (z+1),.int .i64 (z+1+1)]).frozen? ⟨g,j*14+8,none⟩=false:=(aH g _ _ wr _).trans s8
    have t9:(putCells wr g (j*14) [.int .i64 (z),.int .i64 (z+1),.int .i64 (z+1+1)]).frozen? ⟨g,j*14+9,none⟩=false:=(aH g _ _ wr _).trans s9
    have t10:(putCells wr g (j*14) [.int .i64 (z),.int .i64 (z+1),.int .i64 (z+1+1)]).frozen? ⟨g,j*14+10,none⟩=false:=(aH g _ _ wr _).trans s10
    have t11:(putCells wr g (j*14) [.int .i64 (z),.int .i64 (z+1),.int .i64 (z+1+1)]).frozen? ⟨g,j*14+11,none⟩=false:=(aH g _ _ wr _).trans s11
    have t12:(putCells wr g (j*14) [.int .i64 (z),.int .i64 (z+1),.int .i64 (z+1+1)]).frozen? ⟨g,j*14+12,none⟩=false:=(aH g _ _ wr _).trans s12
    have t13:(putCells wr g (j*14) [.int .i64 (z),.int .i64 (z+1),.int .i64 (z+1+1)]).frozen? ⟨g,j*14+13,none⟩=false:=(aH g _ _ wr _).trans s13
    have J4:=ak (Pm.out.trans (ni.put wr (Sf j) (g:=g) (o:=j*14) (cs:=[.int .i64 (z),.int .i64 (z+1),.int .i64 (z+1+1)]) ⟨by omega,by first | (simp;done) | (simp;omega)⟩))
    have Ad:=ak (J7.out.trans ((dO g [.int .i64 (z),.int .i64 (z+1),.int .i64 (z+1+1)] wr (j*14)).more (fun x e=>by rw [e];exact je.out.row.own)))
    have fI:=ak (bH.keep cK (W':=(putCells wr g (j*14) [.int .i64 (z),.int .i64 (z+1),.int .i64 (z+1+1)])) fI.out (fun q hq=>gH g (je.out.row.sub j q (J3.out q hq)).2 _ _ _))
    clear hc
    have hbz:0≤z+1+1+1∧z+1+1+1≤4611686018427387904:=by omega
    have D0:=ak d0
    have F0:=ak t0
    have D1:=ak d1
    have F1:=ak t1
    have D2:=ak d2
    have F2:=ak t2
    have D3:=ak d3
    have F3:=ak t3
    have D4:=ak d4
    have F4:=ak t4
    have D5:=ak d5
    have F5:=ak t5
    have D6:=ak d6
    have F6:=ak t6
    have D7:=ak d7
    have F7:=ak t7
    have D8:=ak d8
    have F8:=ak t8
    have D9:=ak d9
    have F9:=ak t9
    have D10:=ak XL
    have F10:=ak t10
    have D11:=ak XK
    have F11:=ak t11
    have D12:=ak MF
    have F12:=ak t12
    have D13:=ak Sr
    have F13:=ak t13
    clear d0 t0 d1 t1 d2 t2 d3 t3 d4 t4 d5 t5 d6 t6 d7 t7 d8 t8 d9 t9 XL t10 XK t11 MF t12 Sr t13
    go_wp2_with fail
    refine (qb (z+1+1+1) ((putCells wr g (j*14) [.int .i64 (z),.int .i64 (z+1),.int .i64 (z+1+1)])) hbz.1 hbz.2).mono ?_
    intro e eZ h
    obtain ⟨rfl,hms,hb⟩:=wQ h
    have HMS1:=ak hms
    have hgg:g<(putCells wr g (j*14) [.int .i64 (z),.int .i64 (z+1),.int .i64 (z+1+1)]).heap.size:=bV hgl Ad.out.size
    have n0:eZ.cell? ⟨g,j*14,none⟩=some (.int .i64 (z)):=(hb.cell (p:=⟨g,j*14,none⟩) hgg).trans D0.out
    have n1:eZ.cell? ⟨g,j*14+1,none⟩=some (.int .i64 (z+1)):=(hb.cell (p:=⟨g,j*14+1,none⟩) hgg).trans D1.out
    have n2:eZ.cell? ⟨g,j*14+2,none⟩=some (.int .i64 (z+1+1)):=(hb.cell (p:=⟨g,j*14+2,none⟩) hgg).trans D2.out
    have n3:eZ.cell? ⟨g,j*14+3,none⟩=some (.string x3):=(hb.cell (p:=⟨g,j*14+3,none⟩) hgg).trans D3.out
    have n4:eZ.cell? ⟨g,j*14+4,none⟩=some (.int .i64 x4):=(hb.cell (p:=⟨g,j*14+4,none⟩) hgg).trans D4.out
    have n5:eZ.cell? ⟨g,j*14+5,none⟩=some (.int .i64 x5):=(hb.cell (p:=⟨g,j*14+5,none⟩) hgg).trans D5.out
    have n6:eZ.cell? ⟨g,j*14+6,none⟩=some (.int .i64 x6):=(hb.cell (p:=⟨g,j*14+6,none⟩) hgg).trans D6.out
    have n7:eZ.cell? ⟨g,j*14+7,none⟩=some (.int .i64 x7):=(hb.cell (p:=⟨g,j*14+7,none⟩) hgg).trans D7.out
    have n8:eZ.cell? ⟨g,j*14+8,none⟩=some (.int .i64 x8):=(hb.cell (p:=⟨g,j*14+8,none⟩) hgg).trans D8.out
    have n9:eZ.cell? ⟨g,j*14+9,none⟩=some (.int .i64 x9):=(hb.cell (p:=⟨g,j*14+9,none⟩) hgg).trans D9.out
    have n10:eZ.cell? ⟨g,j*14+10,none⟩=some (.int .i64 x10):=(hb.cell (p:=⟨g,j*14+10,none⟩) hgg).trans D10.out
    have n11:eZ.cell? ⟨g,j*14+11,none⟩=some (.int .i64 aS):=(hb.cell (p:=⟨g,j*14+11,none⟩) hgg).trans D11.out
    have n12:eZ.cell? ⟨g,j*14+12,none⟩=some (.int .i64 aV):=(hb.cell (p:=⟨g,j*14+12,none⟩) hgg).trans D12.out
    have n13:eZ.cell? ⟨g,j*14+13,none⟩=some (.slice a0 L0.length c0):=(hb.cell (p:=⟨g,j*14+13,none⟩) hgg).trans D13.out
    have m0:eZ.frozen? ⟨g,j*14,none⟩=false:=(hb.frozen (p:=⟨g,j*14,none⟩) hgg).trans F0.out
    have m1:eZ.frozen? ⟨g,j*14+1,none⟩=false:=(hb.frozen (p:=⟨g,j*14+1,none⟩) hgg).trans F1.out
    have m2:eZ.frozen? ⟨g,j*14+2,none⟩=false:=(hb.frozen (p:=⟨g,j*14+2,none⟩) hgg).trans F2.out
    have m3:eZ.frozen? ⟨g,j*14+3,none⟩=false:=(hb.frozen (p:=⟨g,j*14+3,none⟩) hgg).trans F3.out
    have m4:eZ.frozen? ⟨g,j*14+4,none⟩=false:=(hb.frozen (p:=⟨g,j*14+4,none⟩) hgg).trans F4.out
    have m5:eZ.frozen? ⟨g,j*14+5,none⟩=false:=(hb.frozen (p:=⟨g,j*14+5,none⟩) hgg).trans F5.out
    have m6:eZ.frozen? ⟨g,j*14+6,none⟩=false:=(hb.frozen (p:=⟨g,j*14+6,none⟩) hgg).trans F6.out
    have m7:eZ.frozen? ⟨g,j*14+7,none⟩=false:=(hb.frozen (p:=⟨g,j*14+7,none⟩) hgg).trans F7.out
    have m8:eZ.frozen? ⟨g,j*14+8,none⟩=false:=(hb.frozen (p:=⟨g,j*14+8,none⟩) hgg).trans F8.out
    have m9:eZ.frozen? ⟨g,j*14+9,none⟩=false:=(hb.frozen (p:=⟨g,j*14+9,none⟩) hgg).trans F9.out
    have m10:eZ.frozen? ⟨g,j*14+10,none⟩=false:=(hb.frozen (p:=⟨g,j*14+10,none⟩) hgg).trans F10.out
    have m11:eZ.frozen? ⟨g,j*14+11,none⟩=false:=(hb.frozen (p:=⟨g,j*14+11,none⟩) hgg).trans F11.out
    have m12:eZ.frozen? ⟨g,j*14+12,none⟩=false:=(hb.frozen (p:=⟨g,j*14+12,none⟩) hgg).trans F12.out
    have m13:eZ.frozen? ⟨g,j*14+13,none⟩=false:=(hb.frozen (p:=⟨g,j*14+13,none⟩) hgg).trans F13.out
    have HU2:=ak (J4.out.trans (ni.below hb hgg))
    have Xx:=ak (Ad.out.of_below hb)
    have fI:=ak (fI.out.keep cK (fun q hq=>hb.block q (bV (Aa.out q (je.out.row.sub j q (J3.out q hq)).1) Ad.out.size)))
    clear h hb hgg hbz hms D0 F0 D1 F1 D2 F2 D3 F3 D4 F4 D5 F5 D6 F6 D7 F7 D8 F8 D9 F9 D10 F10 D11 F11 D12 F12 D13 F13
    have e0:=n0
    have s0:=m0
    have e1:=n1
    have s1:=m1
    have e2:=n2
    have s2:=m2
    have e3:=n3
    have s3:=m3
    have e4:=n4
    have s4:=m4
    have e5:=n5
    have s5:=m5
    have e6:=n6
    have s6:=m6
    have e7:=n7
    have s7:=m7
    have e8:=n8
    have s8:=m8
    have e9:=n9
    have s9:=m9
    have e10:=n10
    have s10:=m10
    have e11:=n11
    have s11:=m11
    have e12:=n12
    have s12:=m12
    have e13:=n13
    have s13:=m13
    clear n0 m0 n1 m1 n2 m2 n3 m3 n4 m4 n5 m5 n6 m6 n7 m7 n8 m8 n9 m9 n10 m10 n11 m11 n12 m12 n13 m13
    have hc:=dn g [.string (jv (z+1+1+1)),.int .i64 (z+1+1+1+1),.int .i64 (z+1+1+1+1+1),.int .i64 (z+1+1+1+1+1+1),.int .i64 (z+1+1+1+1+1+1+1),.int .i64 (z+1+1+1+1+1+1+1+1),.int .i64 (z+1+1+1+1+1+1+1+1+1),.int .i64 (z+1+1+1+1+1+1+1+1+1+1),.int .i64 (z+1+1+1+1+1+1+1+1+1+1+1),.int .i64 (z+1+1+1+1+1+1+1+1+1+1+1+1)] eZ (j*14+3) (fun p hp=>by
     match p,hp with
     | 0,_=>exact ⟨_,by simpa [Nat.add_assoc] using e3⟩
     | 1,_=>exact ⟨_,by simpa [Nat.add_assoc] using e4⟩
     | 2,_=>exact ⟨_,by simpa [Nat.add_assoc] using e5⟩
     | 3,_=>exact ⟨_,by simpa [Nat.add_assoc] using e6⟩
     | 4,_=>exact ⟨_,by simpa [Nat.add_assoc] using e7⟩
     | 5,_=>exact ⟨_,by simpa [Nat.add_assoc] using e8⟩
     | 6,_=>exact ⟨_,by simpa [Nat.add_assoc] using e9⟩
     | 7,_=>exact ⟨_,by simpa [Nat.add_assoc] using e10⟩
     | 8,_=>exact ⟨_,by simpa [Nat.add_assoc] using e11⟩
     | 9,_=>exact ⟨_,by simpa [Nat.add_assoc] using e12⟩
     | _+10,hp=>simp at hp;omega)
    have d3:(putCells eZ g (j*14+3) [.string (jv (z+1+1+1)),.int .i64 (z+1+1+1+1),.int .i64 (z+1+1+1+1+1),.int .i64 (z+1+1+1+1+1+1),.int .i64 (z+1+1+1+1+1+1+1),.int .i64 (z+1+1+1+1+1+1+1+1),.int .i64 (z+1+1+1+1+1+1+1+1+1),.int .i64 (z+1+1+1+1+1+1+1+1+1+1),.int .i64 (z+1+1+1+1+1+1+1+1+1+1+1),.int .i64 (z+1+1+1+1+1+1+1+1+1+1+1+1)]).cell? ⟨g,j*14+3,none⟩=some (.string (jv (z+1+1+1))):=by simpa [Nat.add_assoc] using hc 0 _ rfl
    have d4:(putCells eZ g (j*14+3) [.string (jv (z+1+1+1)),.int .i64 (z+1+1+1+1),.int .i64 (z+1+1+1+1+1),.int .i64 (z+1+1+1+1+1+1),.int .i64 (z+1+1+1+1+1+1+1),.int .i64 (z+1+1+1+1+1+1+1+1),.int .i64 (z+1+1+1+1+1+1+1+1+1),.int .i64 (z+1+1+1+1+1+1+1+1+1+1),.int .i64 (z+1+1+1+1+1+1+1+1+1+1+1),.int .i64 (z+1+1+1+1+1+1+1+1+1+1+1+1)]).cell? ⟨g,j*14+4,none⟩=some (.int .i64 (z+1+1+1+1)):=by simpa [Nat.add_assoc] using hc 1 _ rfl
    have d5:(putCells eZ g (j*14+3) [.string (jv (z+1+1+1)),.int .i64 (z+1+1+1+1),.int .i64 (z+1+1+1+1+1),.int .i64 (z+1+1+1+1+1+1),.int .i64 (z+1+1+1+1+1+1+1),.int .i64 (z+1+1+1+1+1+1+1+1),.int .i64 (z+1+1+1+1+1+1+1+1+1),.int .i64 (z+1+1+1+1+1+1+1+1+1+1),.int .i64 (z+1+1+1+1+1+1+1+1+1+1+1),.int .i64 (z+1+1+1+1+1+1+1+1+1+1+1+1)]).cell? ⟨g,j*14+5,none⟩=some (.int .i64 (z+1+1+1+1+1)):=by simpa [Nat.add_assoc] using hc 2 _ rfl
    have d6:(putCells eZ g (j*14+3) [.string (jv (z+1+1+1)),.int .i64 (z+1+1+1+1),.int .i64 (z+1+1+1+1+1),.int .i64 (z+1+1+1+1+1+1),.int .i64 (z+1+1+1+1+1+1+1),.int .i64 (z+1+1+1+1+1+1+1+1),.int .i64 (z+1+1+1+1+1+1+1+1+1),.int .i64 (z+1+1+1+1+1+1+1+1+1+1),.int .i64 (z+1+1+1+1+1+1+1+1+1+1+1),.int .i64 (z+1+1+1+1+1+1+1+1+1+1+1+1)]).cell? ⟨g,j*14+6,none⟩=some (.int .i64 (z+1+1+1+1+1+1)):=by simpa [Nat.add_assoc] using hc 3 _ rfl
    have d7:(putCells eZ g (j*14+3) [.string (jv (z+1+1+1)),.int .i64 (z+1+1+1+1),.int .i64 (z+1+1+1+1+1),.int .i64 (z+1+1+1+1+1+1),.int .i64 (z+1+1+1+1+1+1+1),.int .i64 (z+1+1+1+1+1+1+1+1),.int .i64 (z+1+1+1+1+1+1+1+1+1),.int .i64 (z+1+1+1+1+1+1+1+1+1+1),.int .i64 (z+1+1+1+1+1+1+1+1+1+1+1),.int .i64 (z+1+1+1+1+1+1+1+1+1+1+1+1)]).cell? ⟨g,j*14+7,none⟩=some (.int .i64 (z+1+1+1+1+1+1+1)):=by simpa [Nat.add_assoc] using hc 4 _ rfl
    have d8:(putCells eZ g (j*14+3) [.string (jv (z+1+1+1)),.int .i64 (z+1+1+1+1),.int .i64 (z+1+1+1+1+1),.int .i64 (z+1+1+1+1+1+1),.int .i64 (z+1+1+1+1+1+1+1),.int .i64 (z+1+1+1+1+1+1+1+1),.int .i64 (z+1+1+1+1+1+1+1+1+1),.int .i64 (z+1+1+1+1+1+1+1+1+1+1),.int .i64 (z+1+1+1+1+1+1+1+1+1+1+1),.int .i64 (z+1+1+1+1+1+1+1+1+1+1+1+1)]).cell? ⟨g,j*14+8,none⟩=some (.int .i64 (z+1+1+1+1+1+1+1+1)):=by simpa [Nat.add_assoc] using hc 5 _ rfl
    have d9:(putCells eZ g (j*14+3) [.string (jv (z+1+1+1)),.int .i64 (z+1+1+1+1),.int .i64 (z+1+1+1+1+1),.int .i64 (z+1+1+1+1+1+1),.int .i64 (z+1+1+1+1+1+1+1),.int .i64 (z+1+1+1+1+1+1+1+1),.int .i64 (z+1+1+1+1+1+1+1+1+1),.int .i64 (z+1+1+1+1+1+1+1+1+1+1),.int .i64 (z+1+1+1+1+1+1+1+1+1+1+1),.int .i64 (z+1+1+1+1+1+1+1+1+1+1+1+1)]).cell? ⟨g,j*14+9,none⟩=some (.int .i64 (z+1+1+1+1+1+1+1+1+1)):=by simpa [Nat.add_assoc] using hc 6 _ rfl
    have XL:(putCells eZ g (j*14+3) [.string (jv (z+1+1+1)),.int .i64 (z+1+1+1+1),.int .i64 (z+1+1+1+1+1),.int .i64 (z+1+1+1+1+1+1),.int .i64 (z+1+1+1+1+1+1+1),.int .i64 (z+1+1+1+1+1+1+1+1),.int .i64 (z+1+1+1+1+1+1+1+1+1),.int .i64 (z+1+1+1+1+1+1+1+1+1+1),.int .i64 (z+1+1+1+1+1+1+1+1+1+1+1),.int .i64 (z+1+1+1+1+1+1+1+1+1+1+1+1)]).cell? ⟨g,j*14+10,none⟩=some (.int .i64 (z+1+1+1+1+1+1+1+1+1+1)):=by simpa [Nat.add_assoc] using hc 7 _ rfl
    have XK:(putCells eZ g (j*14+3) [.string (jv (z+1+1+1)),.int .i64 (z+1+1+1+1),.int .i64 (z+1+1+1+1+1),.int .i64 (z+1+1+1+1+1+1),.int .i64 (z+1+1+1+1+1+1+1),.int .i64 (z+1+1+1+1+1+1+1+1),.int .i64 (z+1+1+1+1+1+1+1+1+1),.int .i64 (z+1+1+1+1+1+1+1+1+1+1),.int .i64 (z+1+1+1+1+1+1+1+1+1+1+1),.int .i64 (z+1+1+1+1+1+1+1+1+1+1+1+1)]).cell? ⟨g,j*14+11,none⟩=some (.int .i64 (z+1+1+1+1+1+1+1+1+1+1+1)):=by simpa [Nat.add_assoc] using hc 8 _ rfl
    have MF:(putCells eZ g (j*14+3) [.string (jv (z+1+1+1)),.int .i64 (z+1+1+1+1),.int .i64 (z+1+1+1+1+1),.int .i64 (z+1+1+1+1+1+1),.int .i64 (z+1+1+1+1+1+1+1),.int .i64 (z+1+1+1+1+1+1+1+1),.int .i64 (z+1+1+1+1+1+1+1+1+1),.int .i64 (z+1+1+1+1+1+1+1+1+1+1),.int .i64 (z+1+1+1+1+1+1+1+1+1+1+1),.int .i64 (z+1+1+1+1+1+1+1+1+1+1+1+1)]).cell? ⟨g,j*14+12,none⟩=some (.int .i64 (z+1+1+1+1+1+1+1+1+1+1+1+1)):=by simpa [Nat.add_assoc] using hc 9 _ rfl
    have d0:(putCells eZ g (j*14+3) [.string (jv (z+1+1+1)),.int .i64 (z+1+1+1+1),.int .i64 (z+1+1+1+1+1),.int .i64 (z+1+1+1+1+1+1),.int .i64 (z+1+1+1+1+1+1+1),.int .i64 (z+1+1+1+1+1+1+1+1),.int .i64 (z+1+1+1+1+1+1+1+1+1),.int .i64 (z+1+1+1+1+1+1+1+1+1+1),.int .i64 (z+1+1+1+1+1+1+1+1+1+1+1),.int .i64 (z+1+1+1+1+1+1+1+1+1+1+1+1)]).cell? ⟨g,j*14,none⟩=some (.int .i64 (z)):=(bF g _ eZ _ (by first | (simp;done) | (simp;omega))).trans e0
    have d1:(putCells eZ g (j*14+3) [.string (jv (z+1+1+1)),.int .i64 (z+1+1+1+1),.int .i64 (z+1+1+1+1+1),.int .i64 (z+1+1+1+1+1+1),.int .i64 (z+1+1+1+1+1+1+1),.int .i64 (z+1+1+1+1+1+1+1+1),.int .i64 (z+1+1+1+1+1+1+1+1+1),.int .i64 (z+1+1+1+1+1+1+1+1+1+1),.int .i64 (z+1+1+1+1+1+1+1+1+1+1+1),.int .i64 (z+1+1+1+1+1+1+1+1+1+1+1+1)]).cell? ⟨g,j*14+1,none⟩=some (.int .i64 (z+1)):=(bF g _ eZ _ (by first | (simp;done) | (simp;omega))).trans e1
    have d2:(putCells eZ g (j*14+3) [.string (jv (z+1+1+1)),.int .i64 (z+1+1+1+1),.int .i64 (z+1+1+1+1+1),.int .i64 (z+1+1+1+1+1+1),.int .i64 (z+1+1+1+1+1+1+1),.int .i64 (z+1+1+1+1+1+1+1+1),.int .i64 (z+1+1+1+1+1+1+1+1+1),.int .i64 (z+1+1+1+1+1+1+1+1+1+1),.int .i64 (z+1+1+1+1+1+1+1+1+1+1+1),.int .i64 (z+1+1+1+1+1+1+1+1+1+1+1+1)]).cell? ⟨g,j*14+2,none⟩=some (.int .i64 (z+1+1)):=(bF g _ eZ _ (by first | (simp;done) | (simp;omega))).trans e2
    have Sr:(putCells eZ g (j*14+3) [.string (jv (z+1+1+1)),.int .i64 (z+1+1+1+1),.int .i64 (z+1+1+1+1+1),.int .i64 (z+1+1+1+1+1+1),.int .i64 (z+1+1+1+1+1+1+1),.int .i64 (z+1+1+1+1+1+1+1+1),.int .i64 (z+1+1+1+1+1+1+1+1+1),.int .i64 (z+1+1+1+1+1+1+1+1+1+1),.int .i64 (z+1+1+1+1+1+1+1+1+1+1+1),.int .i64 (z+1+1+1+1+1+1+1+1+1+1+1+1)]).cell? ⟨g,j*14+13,none⟩=some (.slice a0 L0.length c0):=(bF g _ eZ _ (by first | (simp;done) | (simp;omega))).trans e13
    have t0:(putCells eZ g (j*14+3) [.string (jv (z+1+1+1)),.int .i64 (z+1+1+1+1),.int .i64 (z+1+1+1+1+1),.int .i64 (z+1+1+1+1+1+1),.int .i64 (z+1+1+1+1+1+1+1),.int .i64 (z+1+1+1+1+1+1+1+1),.int .i64 (z+1+1+1+1+1+1+1+1+1),.int .i64 (z+1+1+1+1+1+1+1+1+1+1),.int .i64 (z+1+1+1+1+1+1+1+1+1+1+1),.int .i64 (z+1+1+1+1+1+1+1+1+1+1+1+1)]).frozen? ⟨g,j*14,none⟩=false:=(aH g _ _ eZ _).trans s0
    have t1:(putCells eZ g (j*14+3) [.string (jv (z+1+1+1)),.int .i64 (z+1+1+1+1),.int .i64 (z+1+1+1+1+1),.int .i64 (z+1+1+1+1+1+1),.int .i64 (z+1+1+1+1+1+1+1),.int .i64 (z+1+1+1+1+1+1+1+1),.int .i64 (z+1+1+1+1+1+1+1+1+1),.int .i64 (z+1+1+1+1+1+1+1+1+1+1),.int .i64 (z+1+1+1+1+1+1+1+1+1+1+1),.int .i64 (z+1+1+1+1+1+1+1+1+1+1+1+1)]).frozen? ⟨g,j*14+1,none⟩=false:=(aH g _ _ eZ _).trans s1
    have t2:(putCells eZ g (j*14+3) [.string (jv (z+1+1+1)),.int .i64 (z+1+1+1+1),.int .i64 (z+1+1+1+1+1),.int .i64 (z+1+1+1+1+1+1),.int .i64 (z+1+1+1+1+1+1+1),.int .i64 (z+1+1+1+1+1+1+1+1),.int .i64 (z+1+1+1+1+1+1+1+1+1),.int .i64 (z+1+1+1+1+1+1+1+1+1+1),.int .i64 (z+1+1+1+1+1+1+1+1+1+1+1),.int .i64 (z+1+1+1+1+1+1+1+1+1+1+1+1)]).frozen? ⟨g,j*14+2,none⟩=false:=(aH g _ _ eZ _).trans s2
    have t3:(putCells eZ g (j*14+3) [.string (jv (z+1+1+1)),.int .i64 (z+1+1+1+1),.int .i64 (z+1+1+1+1+1),.int .i64 (z+1+1+1+1+1+1),.int .i64 (z+1+1+1+1+1+1+1),.int .i64 (z+1+1+1+1+1+1+1+1),.int .i64 (z+1+1+1+1+1+1+1+1+1),.int .i64 (z+1+1+1+1+1+1+1+1+1+1),.int .i64 (z+1+1+1+1+1+1+1+1+1+1+1),.int .i64 (z+1+1+1+1+1+1+1+1+1+1+1+1)]).frozen? ⟨g,j*14+3,none⟩=false:=(aH g _ _ eZ _).trans s3
    have t4:(putCells eZ g (j*14+3) [.string (jv (z+1+1+1)),.int .i64 (z+1+1+1+1),.int .i64 (z+1+1+1+1+1),.int .i64 (z+1+1+1+1+1+1),.int .i64 (z+1+1+1+1+1+1+1),.int .i64 (z+1+1+1+1+1+1+1+1),.int .i64 (z+1+1+1+1+1+1+1+1+1),.int .i64 (z+1+1+1+1+1+1+1+1+1+1),.int .i64 (z+1+1+1+1+1+1+1+1+1+1+1),.int .i64 (z+1+1+1+1+1+1+1+1+1+1+1+1)]).frozen? ⟨g,j*14+4,none⟩=false:=(aH g _ _ eZ _).trans s4
    have t5:(putCells eZ g (j*14+3) [.string (jv (z+1+1+1)),.int .i64 (z+1+1+1+1),.int .i64 (z+1+1+1+1+1),.int .i64 (z+1+1+1+1+1+1),.int .i64 (z+1+1+1+1+1+1+1),.int .i64 (z+1+1+1+1+1+1+1+1),.int .i64 (z+1+1+1+1+1+1+1+1+1),.int .i64 (z+1+1+1+1+1+1+1+1+1+1),.int .i64 (z+1+1+1+1+1+1+1+1+1+1+1),.int .i64 (z+1+1+1+1+1+1+1+1+1+1+1+1)]).frozen? ⟨g,j*14+5,none⟩=false:=(aH g _ _ eZ _).trans s5
    have t6:(putCells eZ g (j*14+3) [.string (jv (z+1+1+1)),.int .i64 (z+1+1+1+1),.int .i64 (z+1+1+1+1+1),.int .i64 (z+1+1+1+1+1+1),.int .i64 (z+1+1+1+1+1+1+1),.int .i64 (z+1+1+1+1+1+1+1+1),.int .i64 (z+1+1+1+1+1+1+1+1+1),.int .i64 (z+1+1+1+1+1+1+1+1+1+1),.int .i64 (z+1+1+1+1+1+1+1+1+1+1+1),.int .i64 (z+1+1+1+1+1+1+1+1+1+1+1+1)]).frozen? ⟨g,j*14+6,none⟩=false:=(aH g _ _ eZ _).trans s6
    have t7:(putCells eZ g (j*14+3) [.string (jv (z+1+1+1)),.int .i64 (z+1+1+1+1),.int .i64 (z+1+1+1+1+1),.int .i64 (z+1+1+1+1+1+1),.int .i64 (z+1+1+1+1+1+1+1),.int .i64 (z+1+1+1+1+1+1+1+1),.int .i64 (z+1+1+1+1+1+1+1+1+1),.int .i64 (z+1+1+1+1+1+1+1+1+1+1),.int .i64 (z+1+1+1+1+1+1+1+1+1+1+1),.int .i64 (z+1+1+1+1+1+1+1+1+1+1+1+1)]).frozen? ⟨g,j*14+7,none⟩=false:=(aH g _ _ eZ _).trans s7
    have t8:(putCells eZ g (j*14+3) [.string (jv (z+1+1+1)),.int .i64 (z+1+1+1+1),.int .i64 (z+1+1+1+1+1),.int .i64 (z+1+1+1+1+1+1),.int .i64 (z+1+1+1+1+1+1+1),.int .i64 (z+1+1+1+1+1+1+1+1),.int .i64 (z+1+1+1+1+1+1+1+1+1),.int .i64 (z+1+1+1+1+1+1+1+1+1+1),.int .i64 (z+1+1+1+1+1+1+1+1+1+1+1),.int .i64 (z+1+1+1+1+1+1+1+1+1+1+1+1)]).frozen? ⟨g,j*14+8,none⟩=false:=(aH g _ _ eZ _).trans s8
    have t9:(putCells eZ g (j*14+3) [.string (jv (z+1+1+1)),.int .i64 (z+1+1+1+1),.int .i64 (z+1+1+1+1+1),.int .i64 (z+1+1+1+1+1+1),.int .i64 (z+1+1+1+1+1+1+1),.int .i64 (z+1+1+1+1+1+1+1+1),.int .i64 (z+1+1+1+1+1+1+1+1+1),.int .i64 (z+1+1+1+1+1+1+1+1+1+1),.int .i64 (z+1+1+1+1+1+1+1+1+1+1+1),.int .i64 (z+1+1+1+1+1+1+1+1+1+1+1+1)]).frozen? ⟨g,j*14+9,none⟩=false:=(aH g _ _ eZ _).trans s9
    have t10:(putCells eZ g (j*14+3) [.string (jv (z+1+1+1)),.int .i64 (z+1+1+1+1),.int .i64 (z+1+1+1+1+1),.int .i64 (z+1+1+1+1+1+1),.int .i64 (z+1+1+1+1+1+1+1),.int .i64 (z+1+1+1+1+1+1+1+1),.int .i64 (z+1+1+1+1+1+1+1+1+1),.int .i64 (z+1+1+1+1+1+1+1+1+1+1),.int .i64 (z+1+1+1+1+1+1+1+1+1+1+1),.int .i64 (z+1+1+1+1+1+1+1+1+1+1+1+1)]).frozen? ⟨g,j*14+10,none⟩=false:=(aH g _ _ eZ _).trans s10
    have t11:(putCells eZ g (j*14+3) [.string (jv (z+1+1+1)),.int .i64 (z+1+1+1+1),.int .i64 (z+1+1+1+1+1),.int .i64 (z+1+1+1+1+1+1),.int .i64 (z+1+1+1+1+1+1+1),.int .i64 (z+1+1+1+1+1+1+1+1),.int .i64 (z+1+1+1+1+1+1+1+1+1),.int .i64 (z+1+1+1+1+1+1+1+1+1+1),.int .i64 (z+1+1+1+1+1+1+1+1+1+1+1),.int .i64 (z+1+1+1+1+1+1+1+1+1+1+1+1)]).frozen? ⟨g,j*14+11,none⟩=false:=(aH g _ _ eZ _).trans s11
    have t12:(putCells eZ g (j*14+3) [.string (jv (z+1+1+1)),.int .i64 (z+1+1+1+1),.int .i64 (z+1+1+1+1+1),.int .i64 (z+1+1+1+1+1+1),.int .i64 (z+1+1+1+1+1+1+1),.int .i64 (z+1+1+1+1+1+1+1+1),.int .i64 (z+1+1+1+1+1+1+1+1+1),.int .i64 (z+1+1+1+1+1+1+1+1+1+1),.int .i64 (z+1+1+1+1+1+1+1+1+1+1+1),.int .i64 (z+1+1+1+1+1+1+1+1+1+1+1+1)]).frozen? ⟨g,j*14+12,none⟩=false:=(aH g _ _ eZ _).trans s12
    have t13:(putCells eZ g (j*14+3) [.string (jv (z+1+1+1)),.int .i64 (z+1+1+1+1),.int .i64 (z+1+1+1+1+1),.int .i64 (z+1+1+1+1+1+1),.int .i64 (z+1+1+1+1+1+1+1),.int .i64 (z+1+1+1+1+1+1+1+1),.int .i64 (z+1+1+1+1+1+1+1+1+1),.int .i64 (z+1+1+1+1+1+1+1+1+1+1),.int .i64 (z+1+1+1+1+1+1+1+1+1+1+1),.int .i64 (z+1+1+1+1+1+1+1+1+1+1+1+1)]).frozen? ⟨g,j*14+13,none⟩=false:=(aH g _ _ eZ _).trans s13
    have HU3:=ak (HU2.out.trans (ni.put eZ (Sf j) (g:=g) (o:=j*14+3) (cs:=[.string (jv (z+1+1+1)),.int .i64 (z+1+1+1+1),.int .i64 (z+1+1+1+1+1),.int .i64 (z+1+1+1+1+1+1),.int .i64 (z+1+1+1+1+1+1+1),.int .i64 (z+1+1+1+1+1+1+1+1),.int .i64 (z+1+1+1+1+1+1+1+1+1),.int .i64 (z+1+1+1+1+1+1+1+1+1+1),.int .i64 (z+1+1+1+1+1+1+1+1+1+1+1),.int .i64 (z+1+1+1+1+1+1+1+1+1+1+1+1)]) ⟨by omega,by first | (simp;done) | (simp;omega)⟩))
    have HF3:=ak (Xx.out.trans ((dO g [.string (jv (z+1+1+1)),.int .i64 (z+1+1+1+1),.int .i64 (z+1+1+1+1+1),.int .i64 (z+1+1+1+1+1+1),.int .i64 (z+1+1+1+1+1+1+1),.int .i64 (z+1+1+1+1+1+1+1+1),.int .i64 (z+1+1+1+1+1+1+1+1+1),.int .i64 (z+1+1+1+1+1+1+1+1+1+1),.int .i64 (z+1+1+1+1+1+1+1+1+1+1+1),.int .i64 (z+1+1+1+1+1+1+1+1+1+1+1+1)] eZ (j*14+3)).more (fun x e=>by rw [e];exact je.out.row.own)))
    have fI:=ak (bH.keep cK (W':=(putCells eZ g (j*14+3) [.string (jv (z+1+1+1)),.int .i64 (z+1+1+1+1),.int .i64 (z+1+1+1+1+1),.int .i64 (z+1+1+1+1+1+1),.int .i64 (z+1+1+1+1+1+1+1),.int .i64 (z+1+1+1+1+1+1+1+1),.int .i64 (z+1+1+1+1+1+1+1+1+1),.int .i64 (z+1+1+1+1+1+1+1+1+1+1),.int .i64 (z+1+1+1+1+1+1+1+1+1+1+1),.int .i64 (z+1+1+1+1+1+1+1+1+1+1+1+1)])) fI.out (fun q hq=>gH g (je.out.row.sub j q (J3.out q hq)).2 _ _ _))
    clear hc
    have hbz:0≤z+1+1+1+1+1+1+1+1+1+1+1+1+1∧z+1+1+1+1+1+1+1+1+1+1+1+1+1+(bD (I).cm L0:Nat)≤4611686018427387904:=by omega
    have D0:=ak d0
    have F0:=ak t0
    have D1:=ak d1
    have F1:=ak t1
    have D2:=ak d2
    have F2:=ak t2
    have D3:=ak d3
    have F3:=ak t3
    have D4:=ak d4
    have F4:=ak t4
    have D5:=ak d5
    have F5:=ak t5
    have D6:=ak d6
    have F6:=ak t6
    have D7:=ak d7
    have F7:=ak t7
    have D8:=ak d8
    have F8:=ak t8
    have D9:=ak d9
    have F9:=ak t9
    have D10:=ak XL
    have F10:=ak t10
    have D11:=ak XK
    have F11:=ak t11
    have D12:=ak MF
    have F12:=ak t12
    have D13:=ak Sr
    have F13:=ak t13
    clear d0 t0 d1 t1 d2 t2 d3 t3 d4 t4 d5 t5 d6 t6 d7 t7 d8 t8 d9 t9 XL t10 XK t11 MF t12 Sr t13
    go_wp2_with fail
    have HSi:=ak (fun q (hq:T0 q)=>bV (Aa.out q (je.out.row.sub j q (J3.out q hq)).1) HF3.out.size)
    refine (Jg (W:=(putCells eZ g (j*14+3) [.string (jv (z+1+1+1)),.int .i64 (z+1+1+1+1),.int .i64 (z+1+1+1+1+1),.int .i64 (z+1+1+1+1+1+1),.int .i64 (z+1+1+1+1+1+1+1),.int .i64 (z+1+1+1+1+1+1+1+1),.int .i64 (z+1+1+1+1+1+1+1+1+1),.int .i64 (z+1+1+1+1+1+1+1+1+1+1),.int .i64 (z+1+1+1+1+1+1+1+1+1+1+1),.int .i64 (z+1+1+1+1+1+1+1+1+1+1+1+1)])) hbz.1 hbz.2 HSi.out fI.out).mono ?_
    intro e w1 h
    obtain ⟨y0,z0,rfl,hyl,hmm,hzz,how,hoff⟩:=iO h
    have hgg:g<(putCells eZ g (j*14+3) [.string (jv (z+1+1+1)),.int .i64 (z+1+1+1+1),.int .i64 (z+1+1+1+1+1),.int .i64 (z+1+1+1+1+1+1),.int .i64 (z+1+1+1+1+1+1+1),.int .i64 (z+1+1+1+1+1+1+1+1),.int .i64 (z+1+1+1+1+1+1+1+1+1),.int .i64 (z+1+1+1+1+1+1+1+1+1+1),.int .i64 (z+1+1+1+1+1+1+1+1+1+1+1),.int .i64 (z+1+1+1+1+1+1+1+1+1+1+1+1)]).heap.size:=bV hgl HF3.out.size
    have qI:¬T0 g:=fun hg=>hne (J3.out g hg)
    have n0:w1.cell? ⟨g,j*14,none⟩=some (.int .i64 (z)):=(World.cell?_of_block (a:=⟨g,j*14,none⟩) (hoff.block g hgg qI)).trans D0.out
    have n1:w1.cell? ⟨g,j*14+1,none⟩=some (.int .i64 (z+1)):=(World.cell?_of_block (a:=⟨g,j*14+1,none⟩) (hoff.block g hgg qI)).trans D1.out
    have n2:w1.cell? ⟨g,j*14+2,none⟩=some (.int .i64 (z+1+1)):=(World.cell?_of_block (a:=⟨g,j*14+2,none⟩) (hoff.block g hgg qI)).trans D2.out
    have n3:w1.cell? ⟨g,j*14+3,none⟩=some (.string (jv (z+1+1+1))):=(World.cell?_of_block (a:=⟨g,j*14+3,none⟩) (hoff.block g hgg qI)).trans D3.out
    have n4:w1.cell? ⟨g,j*14+4,none⟩=some (.int .i64 (z+1+1+1+1)):=(World.cell?_of_block (a:=⟨g,j*14+4,none⟩) (hoff.block g hgg qI)).trans D4.out
    have n5:w1.cell? ⟨g,j*14+5,none⟩=some (.int .i64 (z+1+1+1+1+1)):=(World.cell?_of_block (a:=⟨g,j*14+5,none⟩) (hoff.block g hgg qI)).trans D5.out
    have n6:w1.cell? ⟨g,j*14+6,none⟩=some (.int .i64 (z+1+1+1+1+1+1)):=(World.cell?_of_block (a:=⟨g,j*14+6,none⟩) (hoff.block g hgg qI)).trans D6.out
    have n7:w1.cell? ⟨g,j*14+7,none⟩=some (.int .i64 (z+1+1+1+1+1+1+1)):=(World.cell?_of_block (a:=⟨g,j*14+7,none⟩) (hoff.block g hgg qI)).trans D7.out
    have n8:w1.cell? ⟨g,j*14+8,none⟩=some (.int .i64 (z+1+1+1+1+1+1+1+1)):=(World.cell?_of_block (a:=⟨g,j*14+8,none⟩) (hoff.block g hgg qI)).trans D8.out
    have n9:w1.cell? ⟨g,j*14+9,none⟩=some (.int .i64 (z+1+1+1+1+1+1+1+1+1)):=(World.cell?_of_block (a:=⟨g,j*14+9,none⟩) (hoff.block g hgg qI)).trans D9.out
    have n10:w1.cell? ⟨g,j*14+10,none⟩=some (.int .i64 (z+1+1+1+1+1+1+1+1+1+1)):=(World.cell?_of_block (a:=⟨g,j*14+10,none⟩) (hoff.block g hgg qI)).trans D10.out
    have n11:w1.cell? ⟨g,j*14+11,none⟩=some (.int .i64 (z+1+1+1+1+1+1+1+1+1+1+1)):=(World.cell?_of_block (a:=⟨g,j*14+11,none⟩) (hoff.block g hgg qI)).trans D11.out
    have n12:w1.cell? ⟨g,j*14+12,none⟩=some (.int .i64 (z+1+1+1+1+1+1+1+1+1+1+1+1)):=(World.cell?_of_block (a:=⟨g,j*14+12,none⟩) (hoff.block g hgg qI)).trans D12.out
    have n13:w1.cell? ⟨g,j*14+13,none⟩=some (.slice a0 L0.length c0):=(World.cell?_of_block (a:=⟨g,j*14+13,none⟩) (hoff.block g hgg qI)).trans D13.out
    have m0:w1.frozen? ⟨g,j*14,none⟩=false:=(World.frozen?_of_block (a:=⟨g,j*14,none⟩) (hoff.block g hgg qI)).trans F0.out
    have m1:w1.frozen? ⟨g,j*14+1,none⟩=false:=(World.frozen?_of_block (a:=⟨g,j*14+1,none⟩) (hoff.block g hgg qI)).trans F1.out
    have m2:w1.frozen? ⟨g,j*14+2,none⟩=false:=(World.frozen?_of_block (a:=⟨g,j*14+2,none⟩) (hoff.block g hgg qI)).trans F2.out
    have m3:w1.frozen? ⟨g,j*14+3,none⟩=false:=(World.frozen?_of_block (a:=⟨g,j*14+3,none⟩) (hoff.block g hgg qI)).trans F3.out
    have m4:w1.frozen? ⟨g,j*14+4,none⟩=false:=(World.frozen?_of_block (a:=⟨g,j*14+4,none⟩) (hoff.block g hgg qI)).trans F4.out
    have m5:w1.frozen? ⟨g,j*14+5,none⟩=false:=(World.frozen?_of_block (a:=⟨g,j*14+5,none⟩) (hoff.block g hgg qI)).trans F5.out
    have m6:w1.frozen? ⟨g,j*14+6,none⟩=false:=(World.frozen?_of_block (a:=⟨g,j*14+6,none⟩) (hoff.block g hgg qI)).trans F6.out
    have m7:w1.frozen? ⟨g,j*14+7,none⟩=false:=(World.frozen?_of_block (a:=⟨g,j*14+7,none⟩) (hoff.block g hgg qI)).trans F7.out
    have m8:w1.frozen? ⟨g,j*14+8,none⟩=false:=(World.frozen?_of_block (a:=⟨g,j*14+8,none⟩) (hoff.block g hgg qI)).trans F8.out
    have m9:w1.frozen? ⟨g,j*14+9,none⟩=false:=(World.frozen?_of_block (a:=⟨g,j*14+9,none⟩) (hoff.block g hgg qI)).trans F9.out
    have m10:w1.frozen? ⟨g,j*14+10,none⟩=false:=(World.frozen?_of_block (a:=⟨g,j*14+10,none⟩) (hoff.block g hgg qI)).trans F10.out
    have m11:w1.frozen? ⟨g,j*14+11,none⟩=false:=(World.frozen?_of_block (a:=⟨g,j*14+11,none⟩) (hoff.block g hgg qI)).trans F11.out
    have m12:w1.frozen? ⟨g,j*14+12,none⟩=false:=(World.frozen?_of_block (a:=⟨g,j*14+12,none⟩) (hoff.block g hgg qI)).trans F12.out
    have m13:w1.frozen? ⟨g,j*14+13,none⟩=false:=(World.frozen?_of_block (a:=⟨g,j*14+13,none⟩) (hoff.block g hgg qI)).trans F13.out
    have HU4:=ak (HU3.out.trans (ni.off (hoff.more J3.out) hgg hne))
    have HF4:=ak (HF3.out.trans (hoff.more (fun q hq=>(je.out.row.sub j q (J3.out q hq)).1)))
    have fI:=ak how
    have Kt:=ak hmm
    have Kr:=ak hyl
    have vO:=ak hzz
    have hzn0:0≤z0∧z0≤4611686018427387904:=by omega
    clear h hyl hmm how hoff hgg qI hbz hzz HSi D0 F0 D1 F1 D2 F2 D3 F3 D4 F4 D5 F5 D6 F6 D7 F7 D8 F8 D9 F9 D10 F10 D11 F11 D12 F12 D13 F13
    have e0:=n0
    have s0:=m0
    have e1:=n1
    have s1:=m1
    have e2:=n2
    have s2:=m2
    have e3:=n3
    have s3:=m3
    have e4:=n4
    have s4:=m4
    have e5:=n5
    have s5:=m5
    have e6:=n6
    have s6:=m6
    have e7:=n7
    have s7:=m7
    have e8:=n8
    have s8:=m8
    have e9:=n9
    have s9:=m9
    have e10:=n10
    have s10:=m10
    have e11:=n11
    have s11:=m11
    have e12:=n12
    have s12:=m12
    have e13:=n13
    have s13:=m13
    clear n0 m0 n1 m1 n2 m2 n3 m3 n4 m4 n5 m5 n6 m6 n7 m7 n8 m8 n9 m9 n10 m10 n11 m11 n12 m12 n13 m13
    have hcf:aR w1 g (j*14) [.int .i64 (z),.int .i64 (z+1),.int .i64 (z+1+1),.string (jv (z+1+1+1)),.int .i64 (z+1+1+1+1),.int .i64 (z+1+1+1+1+1),.int .i64 (z+1+1+1+1+1+1),.int .i64 (z+1+1+1+1+1+1+1),.int .i64 (z+1+1+1+1+1+1+1+1),.int .i64 (z+1+1+1+1+1+1+1+1+1),.int .i64 (z+1+1+1+1+1+1+1+1+1+1),.int .i64 (z+1+1+1+1+1+1+1+1+1+1+1),.int .i64 (z+1+1+1+1+1+1+1+1+1+1+1+1),.slice a0 y0.length c0]:=aR.cons.2 ⟨e0,aR.cons.2 ⟨e1,aR.cons.2 ⟨e2,aR.cons.2 ⟨e3,aR.cons.2 ⟨e4,aR.cons.2 ⟨e5,aR.cons.2 ⟨e6,aR.cons.2 ⟨e7,aR.cons.2 ⟨e8,aR.cons.2 ⟨e9,aR.cons.2 ⟨e10,aR.cons.2 ⟨e11,aR.cons.2 ⟨e12,aR.cons.2 ⟨by rw [Kr.out];exact e13,aR.nil⟩⟩⟩⟩⟩⟩⟩⟩⟩⟩⟩⟩⟩⟩
    have iY:=ak (je.out.step aA (w':=w1) (y:=((z,z+1),z+1+1,(jv (z+1+1+1)),z+1+1+1+1,z+1+1+1+1+1,z+1+1+1+1+1+1,(z+1+1+1+1+1+1+1,z+1+1+1+1+1+1+1+1),z+1+1+1+1+1+1+1+1+1,z+1+1+1+1+1+1+1+1+1+1,z+1+1+1+1+1+1+1+1+1+1+1,z+1+1+1+1+1+1+1+1+1+1+1+1,y0)) (q':=z0) Aa.out HX.out HU4.out HF4.out hcf (lQ J3.out fI.out HMS1.out) (Wd Kt.out) (by rw [hcx];have q0:=vO.out;omega))
    have hzb:0≤z0∧z0≤4611686018427387904:=by have q0:=vO.out;omega
    clear hcf hcx
    go_wp2
    go_roundw
    case rel=>exact ⟨j+1,by omega,by go_num,_,_,rfl,by first | exact iY.out | simpa [putCells,Nat.add_assoc,Int.add_assoc] using iY.out⟩
    case measure=>simp [intOf];omega
   ·obtain rfl:j=L.length:=by omega
    have HR:=ak (je.out.done HCAP.out qP.out)
    clear hM aj
    go_wp2
    go_ret
    exact HR.out
theorem KU:(aI).size=14:=rfl
theorem LU {L:List (aF)}{a:Option Addr}{cap:Nat}{W:World}{k k':Int}(h0:0≤k)(h1:k'≤4611686018427387904)(hm:jC aI L k k')(h:aJ aI W W.heap.size L a cap):Calls Tryz.prog 95 #[.slice a L.length cap,.int .i64 k] W (nN k' W):=by
 have hn:L.length≤9223372036854775807:=by have h1:=h.1;have h2:=h.2.1;unfold maxLen at h2;omega
 have H:=ak h
 have HM:=ak hm
 clear h hm
 go_enter Tryz.func95,Tryz.ntmps95
 go_wp2
 go_loopw [5,1] (fun i q wr=>∃ j:Nat,j≤L.length∧i=.int .i64 j∧(∃ z:Int,q=.int .i64 z∧0≤z∧jC aI (L.drop j) z k')∧Below W.heap.size W wr) (fun i _ _=>L.length-(intOf i).toNat)
 case atStart=>exact ⟨0,dV _,rfl,⟨k,rfl,h0,HM.out⟩,aW _ _⟩
 case round=>
  obtain ⟨j,hj,rfl,⟨z,rfl,hz,hmz⟩,hB⟩:=hrel
  have HB:=ak hB
  have hsz:=hB.size
  by_cases hlt:j<L.length
  ·obtain ⟨⟨⟨x0,x1⟩,x2,x3,x4,x5,x6,⟨x7,x8⟩,x9,x10,aS,aV,L0⟩,hx⟩:=aM hlt
   obtain ⟨k1,hxm,hmn⟩:=jX hx hmz
   have hzb:=eG sJ hmn
   have hxb:=sJ _ _ _ hxm
   obtain ⟨g,o,us,rfl,hg,hu,hr⟩:=(H.out.below aA hB).at_ hx
   have FZ:=ak hmn
   have hi0:(0:Int)≤(j:Int):=eu _
   have hi1:(j:Int)<(L.length:Int):=by omega
   obtain ⟨a0,c0,rfl,dY,fH⟩:=fA hr
   obtain ⟨z0,rfl,rfl,rfl,rfl,rfl,rfl,rfl,rfl,rfl,rfl,rfl,rfl,rfl,m_0,hk1⟩:=Wm hxm
   have e0:=cO hu 0 rfl
   have e1:=cO hu 1 rfl
   have e2:=cO hu 2 rfl
   have e3:=cO hu 3 rfl
   have e4:=cO hu 4 rfl
   have e5:=cO hu 5 rfl
   have e6:=cO hu 6 rfl
   have e7:=cO hu 7 rfl
   have e8:=cO hu 8 rfl
   have e9:=cO hu 9 rfl
   have e10:=cO hu 10 rfl
   have e11:=cO hu 11 rfl
   have e12:=cO hu 12 rfl
   have e13:=cO hu 13 rfl
   simp only [KU] at e0 e1 e2 e3 e4 e5 e6 e7 e8 e9 e10 e11 e12 e13
   simp only [←Nat.add_assoc,Nat.add_zero] at e0 e1 e2 e3 e4 e5 e6 e7 e8 e9 e10 e11 e12 e13
   have HXM0:=ak m_0
   have hle0:=eG pG m_0
   have fI:=ak (dY.more cK hsz)
   have hfin:k1≤4611686018427387904:=by omega
   have J6:=ak hk1
   clear hB hx hu hmz hmn hxm dY m_0
   have hgl:g<wr.heap.size:=bV hg hsz
   go_wp2_with fail
   refine dX (S:=(fun V=>Below (wr).heap.size (wr) V)) (by kernel_rfl) ((aW _ _).drew) (fun ah=>?_)
   refine tk 0 ah ?_
   refine tk 1 ah ?_
   refine tk 2 ah ?_
   refine tk 3 ah ?_
   refine tk 4 ah ?_ (hy:=fun w aj=>by (try dsimp only at aj);have k0:=(aj.cell (p:=⟨g,o+j*14+3,none⟩) hgl).trans e3;clear aj;go_simp;try with_reducible rfl)
   refine tk 5 ah ?_
   refine dw 6 (fun K hK=>?_)
   go_simp
   go_at_call 91
   refine (qb (x0+1+1+1) _ (by omega) (by omega)).mono ?_
   intro e w1 h
   obtain ⟨rfl,hms,hb⟩:=wQ h
   clear h hms
   refine hK.out _ _ (ah.trans (hb.mono ah.size)) (fun ah=>?_)
   clear hK K hb
   refine tk 7 ah ?_
   refine dQ ?_
   have HF:=ak ah
   clear ah
   replace e4:=(HF.out.cell (p:=⟨g,_,none⟩) hgl).trans e4
   replace e5:=(HF.out.cell (p:=⟨g,_,none⟩) hgl).trans e5
   replace e6:=(HF.out.cell (p:=⟨g,_,none⟩) hgl).trans e6
   replace e7:=(HF.out.cell (p:=⟨g,_,none⟩) hgl).trans e7
   replace e8:=(HF.out.cell (p:=⟨g,_,none⟩) hgl).trans e8
   replace e9:=(HF.out.cell (p:=⟨g,_,none⟩) hgl).trans e9
   replace e10:=(HF.out.cell (p:=⟨g,_,none⟩) hgl).trans e10
   replace e11:=(HF.out.cell (p:=⟨g,_,none⟩) hgl).trans e11
   replace e12:=(HF.out.cell (p:=⟨g,_,none⟩) hgl).trans e12
   replace e13:=(HF.out.cell (p:=⟨g,_,none⟩) hgl).trans e13
   have fI:=ak ((fI.out.below cK HF.out).more cK HF.out.size)
   go_wp2_with fail
   refine (Jp (k:=x0+1+1+1+1+1+1+1+1+1+1+1+1+1) (k':=z0) (by omega) (by omega) HXM0.out fI.out).mono ?_
   intro e w1 h
   obtain ⟨rfl,hb⟩:=eU h
   have HBc0:=ak (HF.out.trans (hb.mono HF.out.size))
   have Dw:0≤z0:=by omega
   clear h hb
   have HB2:=ak (HB.out.trans (HBc0.out.mono hsz))
   go_wp2
   go_roundw
   case rel=>exact ⟨j+1,by omega,by go_num,⟨_,rfl,by omega,by rw [←J6.out];exact FZ.out⟩,HB2.out⟩
   case measure=>simp [intOf];omega
  ·obtain rfl:j=L.length:=by omega
   have HE:=ak (lD hmz)
   clear hmz hB
   go_wp2
   go_ret
   exact ⟨by rw [HE.out];rfl,HB.out⟩
end
section
open Go.ChangeShapes Go.WideShapes Go.ChangeAt Go.RowKit Go.Joins Go.Deep bN bO
theorem Vl:Tryz.prog.cellsOf 111=14:=by kernel_rfl
theorem VW:zQ aI 111:=fun enc W fuel cs y h=>by
 obtain ⟨xs,n,_,_,hl,hlen,hf⟩:=DataW.trod_struct Tryz.underlying111 h
 rw [Vl] at hl
 match cs,hl with
 | [c0,c1,c2,c3,c4,c5,c6,c7,c8,c9,c10,c11,c12,c13],_=>
  have e2:xs.length=12:=hlen
  match xs,e2 with
  | [y0,y1,y2,y3,y4,y5,y6,y7,y8,y9,Ms,JG],_=>
   have g0:=qJ hf 0 33 0 2 rfl nQ
   have g1:=qJ hf 1 2 2 1 rfl fO
   have g2:=qJ hf 2 9 3 1 rfl II
   have g3:=qJ hf 3 2 4 1 rfl fO
   have g4:=qJ hf 4 2 5 1 rfl fO
   have g5:=qJ hf 5 2 6 1 rfl fO
   have g6:=qJ hf 6 33 7 2 rfl nQ
   have g7:=qJ hf 7 2 9 1 rfl fO
   have g8:=qJ hf 8 2 10 1 rfl fO
   have g9:=qJ hf 9 2 11 1 rfl fO
   have g10:=qJ hf 10 2 12 1 rfl fO
   have g11:=qJ hf 11 70 13 1 rfl ab7
   obtain ⟨d0,h0⟩:=kD enc W n [c0,c1] y0 g0
   obtain ⟨d1,h1⟩:=fM enc W n [c2] y1 g1
   obtain ⟨d2,h2⟩:=BJ enc W n [c3] y2 g2
   obtain ⟨d3,h3⟩:=fM enc W n [c4] y3 g3
   obtain ⟨d4,h4⟩:=fM enc W n [c5] y4 g4
   obtain ⟨d5,h5⟩:=fM enc W n [c6] y5 g5
   obtain ⟨d6,h6⟩:=kD enc W n [c7,c8] y6 g6
   obtain ⟨d7,h7⟩:=fM enc W n [c9] y7 g7
   obtain ⟨d8,h8⟩:=fM enc W n [c10] y8 g8
   obtain ⟨d9,h9⟩:=fM enc W n [c11] y9 g9
   obtain ⟨XL,h10⟩:=fM enc W n [c12] Ms g10
   obtain ⟨XK,h11⟩:=VR enc W n [c13] JG g11
   exact ⟨(d0,d1,d2,d3,d4,d5,d6,d7,d8,d9,XL,XK),⟨[c0,c1],[c2,c3,c4,c5,c6,c7,c8,c9,c10,c11,c12,c13],rfl,h0,⟨[c2],[c3,c4,c5,c6,c7,c8,c9,c10,c11,c12,c13],rfl,h1,⟨[c3],[c4,c5,c6,c7,c8,c9,c10,c11,c12,c13],rfl,h2,⟨[c4],[c5,c6,c7,c8,c9,c10,c11,c12,c13],rfl,h3,⟨[c5],[c6,c7,c8,c9,c10,c11,c12,c13],rfl,h4,⟨[c6],[c7,c8,c9,c10,c11,c12,c13],rfl,h5,⟨[c7,c8],[c9,c10,c11,c12,c13],rfl,h6,⟨[c9],[c10,c11,c12,c13],rfl,h7,⟨[c10],[c11,c12,c13],rfl,h8,⟨[c11],[c12,c13],rfl,h9,⟨[c12],[c13],rfl,h10,h11⟩⟩⟩⟩⟩⟩⟩⟩⟩⟩⟩⟩
theorem aaf:Tryz.prog.cellsOf 28=1:=by kernel_rfl
theorem QY:zQ (Sl aI) 28:=pO VW (by decide) Tryz.underlying28 Vl
end
section
open Go.RowKit bN bO bJ bQ
theorem G7:∀ L:List Int,bD I.cm L=L.length
 | []=>rfl
 | x::xs=>by simp only [bD,G7 xs,List.length_cons];show 1+_=_;omega
theorem EY (x:aF):aI.cm x=13+(jF x).length:=by
 obtain ⟨⟨x0,x1⟩,x2,x3,x4,x5,x6,⟨x7,x8⟩,x9,x10,aS,aV,M⟩:=x
 show 1+1+(1+(1+(1+(1+(1+(1+1+(1+(1+(1+(1+bD I.cm M))))))))))  = _
 rw [G7]
 show _=13+M.length
 omega
theorem NM (x:aF):aI.sz x=(U5 x).size+(jF x).length:=by
 obtain ⟨⟨x0,x1⟩,x2,x3,x4,x5,x6,⟨x7,x8⟩,x9,x10,aS,aV,M⟩:=x
 rw [G5]
 have h0:bD I.sz M=0:=kC (fun _=>rfl) M
 show x3.size+(M.length+bD I.sz M)=x3.size+M.length
 omega
theorem Iz:∀ L:List aF,bD aI.cm L≤13*L.length+bD aI.sz L
 | []=>bK _
 | x::xs=>by
  have h:=Iz xs
  have h1:=EY x
  have h2:=NM x
  simp only [bD,List.length_cons]
  omega
theorem RF {L:List aF}(h:(Sl aI).sz L≤1048576):(Sl aI).cv L≤33554432:=by
 have e:=Iz L
 have e2:(Sl aI).sz L=L.length+bD aI.sz L:=rfl
 show bD aI.cm L≤_
 omega
theorem NK {x:aF}{cs:List Value}{W:World}(h:aI.rd W W.heap.size x cs):Calls Tryz.prog 193 #[.agg cs.toArray] W fun e w'=>e=.returned (.bool (Dr x))∧Below W.heap.size W w':=by
 obtain ⟨⟨x0,x1⟩,x2,x3,x4,x5,x6,⟨x7,x8⟩,x9,x10,aS,aV,M⟩:=x
 obtain ⟨ba,bc,rfl,k,b⟩:=fA h
 exact (KM b k).mono fun e w' h=>rT lN h
end
end aQ
end Go.Proofs.YtlhfiapfncikdaaGreatDoor
