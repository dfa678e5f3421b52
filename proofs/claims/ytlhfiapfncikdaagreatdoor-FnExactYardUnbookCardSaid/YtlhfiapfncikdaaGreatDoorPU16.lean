import Derived.Test.YtlhfiapfncikdaaGreatDoorPU14
set_option linter.unusedVariables false
set_option linter.unusedSimpArgs false
set_option maxRecDepth 100000
set_option maxHeartbeats 3200000
namespace Go.Proofs.YtlhfiapfncikdaaGreatDoor.aP
section
open Go.RowKit bN bP bJ bM fT
theorem xI (n lo hi:Int){b:Bool}(hb:dI n lo hi=b)(w:World) :
 Calls Tryz.prog 157 #[.int .i64 n,.int .i64 lo,.int .i64 hi] w fun e w'=>e=.returned (.bool b)∧w=w':=by
 subst hb
 exact pU n lo hi w
theorem oJ (n:Int){b:Bool}(hb:dI n 0 1000000=b)(w:World) :
 Calls Tryz.prog 176 #[.int .i64 n] w fun e w'=>e=.returned (.bool b)∧w=w':=by
 subst hb
 exact oL n w
theorem Ol (n:Int){b:Bool}(hb:dI n 0 999900=b)(w:World) :
 Calls Tryz.prog 97 #[.int .i64 n] w fun e w'=>e=.returned (.bool b)∧w=w':=by
 subst hb
 go_enter Tryz.func97,Tryz.ntmps97
 go_wp2_with (go_at_call 157;refine (pU _ _ _ _).mono ?_;rintro e w' ⟨rfl,rfl⟩)
 go_ret
 exact ⟨rfl,rfl⟩
theorem DF {s:ByteArray}{w w':World}{e:Ending}(h:fT.Res (nC s) w e w'):e=.returned (.bool (kg s))∧w=w':=by
 obtain ⟨b,rfl,hb,rfl⟩:=h
 have:b=kg s:=by
  cases b <;> cases hn:kg s
  ·rfl
  ·exact absurd (hb.2 (jS.1 hn)) (by decide)
  ·exact absurd (jS.2 (hb.1 rfl)) (by rw [hn];decide)
  ·rfl
 exact ⟨by rw [this],rfl⟩
theorem VI {s:ByteArray}{b:Bool}(hs:s.size≤maxLen)(hb:kg s=b)(w:World):Calls Tryz.prog 163 #[.string s] w fun e w'=>e=.returned (.bool b)∧w=w':=by
 subst hb
 exact (GK s w hs).mono fun _ _ h=>DF h
theorem VJ {s:ByteArray}{b:Bool}(hs:s.size≤maxLen)(hb:kg s=b)(w:World):Calls Tryz.prog 197 #[.string s] w fun e w'=>e=.returned (.bool b)∧w=w':=by
 subst hb
 exact (Ht s w hs).mono fun _ _ h=>DF h
theorem ZA (l s:Int){b:Bool}(hb:dD.rB l s=b)(w:World) :
 Calls Tryz.prog 162 #[.agg #[.int .i64 l,.int .i64 s]] w fun e w'=>e=.returned (.bool b)∧Below w.heap.size w w':=by
 subst hb
 exact (dD.iM l s w).mono fun _ _ ⟨h1,h2⟩=>⟨h1,by rw [←h2];exact (aU _ _).alloc (bK _) _⟩
theorem ZT (l s m t:Int){b:Bool}(hb:dD.iY l s m t=b)(w:World) :
 Calls Tryz.prog 185 #[.agg #[.int .i64 l,.int .i64 s],.agg #[.int .i64 m,.int .i64 t]] w fun e w'=>e=.returned (.bool b)∧Below w.heap.size w w':=by
 subst hb
 exact dD.LW l s m t w
theorem ZU (l s m t:Int){b:Bool}(hb:dD.iY l s m t=b)(w:World) :
 Calls Tryz.prog 231 #[.agg #[.int .i64 l,.int .i64 s],.agg #[.int .i64 m,.int .i64 t]] w fun e w'=>e=.returned (.bool b)∧Below w.heap.size w w':=by
 subst hb
 exact dD.Cc l s m t w
theorem Ku {x0 x1 x2:Int}{x3:ByteArray}{x4 x5 x6 x7 x8 x9 x10 aR aW:Int}{L:List Int}{a:Option Addr}{c:Nat}{W:World}(gW:x3.size≤maxLen)(h:aH I W W.heap.size L a c):Calls Tryz.prog 123 #[.agg #[.int .i64 x0,.int .i64 x1,.int .i64 x2,.string x3,.int .i64 x4,.int .i64 x5,.int .i64 x6,.int .i64 x7,.int .i64 x8,.int .i64 x9,.int .i64 x10,.int .i64 aR,.int .i64 aW,.slice a L.length c]] W (jh (cB ((x0,x1),x2,x3,x4,x5,x6,(x7,x8),x9,x10,aR,aW,L)) W):=by
 have hn:L.length≤9223372036854775807:=by have h1:=h.1;have h2:=h.2.1;unfold maxLen at h2;omega
 have H:=aj h
 clear h
 have Mt:=aj gW
 unfold maxLen at gW
 obtain ⟨b0,h0⟩:∃ b,dD.rB x0 x1=b:=⟨_,rfl⟩
 have H0:=aj h0
 clear h0
 obtain ⟨b1,h1⟩:∃ b,dI x2 1 12=b:=⟨_,rfl⟩
 have H1:=aj h1
 clear h1
 obtain ⟨b2,h2⟩:∃ b,kg x3=b:=⟨_,rfl⟩
 have H2:=aj h2
 clear h2
 obtain ⟨b3,h3⟩:∃ b,dI x4 1 6=b:=⟨_,rfl⟩
 have H3:=aj h3
 clear h3
 obtain ⟨b4,h4⟩:∃ b,dI x5 1 20=b:=⟨_,rfl⟩
 have H4:=aj h4
 clear h4
 obtain ⟨b5,h5⟩:∃ b,dI x6 0 9=b:=⟨_,rfl⟩
 have H5:=aj h5
 clear h5
 obtain ⟨b6,h6⟩:∃ b,dI x10 0 999900=b:=⟨_,rfl⟩
 have H6:=aj h6
 clear h6
 obtain ⟨b7,h7⟩:∃ b,dI aR 1 6=b:=⟨_,rfl⟩
 have H7:=aj h7
 clear h7
 obtain ⟨b8,h8⟩:∃ b,dI x9 1 12=b:=⟨_,rfl⟩
 have H8:=aj h8
 clear h8
 obtain ⟨b9,h9⟩:∃ b,dD.iY x7 x8 x0 x1=b:=⟨_,rfl⟩
 have yh:=aj h9
 clear h9
 obtain ⟨b10,h10⟩:∃ b,dI aW 0 1000000=b:=⟨_,rfl⟩
 have FE:=aj h10
 clear h10
 have HB0:=aj (show Below W.heap.size W (W.alloc (.cells #[.int .i64 x0,.int .i64 x1,.int .i64 x2,.string x3,.int .i64 x4,.int .i64 x5,.int .i64 x6,.int .i64 x7,.int .i64 x8,.int .i64 x9,.int .i64 x10,.int .i64 aR,.int .i64 aW,.slice a L.length c] 72)) from (aU _ _).alloc (bK _) _)
 have iF:=aj (aN.new W 72 #[.int .i64 x0,.int .i64 x1,.int .i64 x2,.string x3,.int .i64 x4,.int .i64 x5,.int .i64 x6,.int .i64 x7,.int .i64 x8,.int .i64 x9,.int .i64 x10,.int .i64 aR,.int .i64 aW,.slice a L.length c])
 have hz0:W.heap.size≤(W.alloc (.cells #[.int .i64 x0,.int .i64 x1,.int .i64 x2,.string x3,.int .i64 x4,.int .i64 x5,.int .i64 x6,.int .i64 x7,.int .i64 x8,.int .i64 x9,.int .i64 x10,.int .i64 aR,.int .i64 aW,.slice a L.length c] 72)).heap.size:=HB0.out.size
 go_enter Tryz.func123,Tryz.ntmps123
 go_wp2_with fail
 refine (ZA x0 x1 H0.out _).mono ?_
 rintro e w1 ⟨rfl,hb⟩
 have dh:=aj (iF.out.call hb)
 have HB1:=aj (HB0.out.trans (hb.mono hz0))
 have hz1:W.heap.size≤w1.heap.size:=HB1.out.size
 clear hb
 obtain ⟨p0,p1,p2,p3,p4,p5,p6,p7,p8,p9,RQ,RP,RO,RN⟩:=dh.out.fQ rfl
 clear iF HB0
 cases b0 with
 | false=>
  have HV:=aj (show ¬cB ((x0,x1),x2,x3,x4,x5,x6,(x7,x8),x9,x10,aR,aW,L) from fun h=>by have h2:=h.1;rw [H0.out] at h2;cases h2)
  go_wp2
  go_ret
  exact aA HV.out HB1.out
 | true=>
  go_wp2_with fail
  refine (xI _ _ _ H1.out _).mono ?_
  rintro e w2 ⟨rfl,rfl⟩
  cases b1 with
  | false=>
   have HV:=aj (show ¬cB ((x0,x1),x2,x3,x4,x5,x6,(x7,x8),x9,x10,aR,aW,L) from fun h=>by have h2:=h.2.1;rw [H1.out] at h2;cases h2)
   go_wp2
   go_ret
   exact aA HV.out HB1.out
  | true=>
   go_wp2_with fail
   refine (VI Mt.out H2.out _).mono ?_
   rintro e w2 ⟨rfl,rfl⟩
   cases b2 with
   | false=>
    have HV:=aj (show ¬cB ((x0,x1),x2,x3,x4,x5,x6,(x7,x8),x9,x10,aR,aW,L) from fun h=>by have h2:=h.2.2.1;rw [H2.out] at h2;cases h2)
    go_wp2
    go_ret
    exact aA HV.out HB1.out
   | true=>
    go_wp2_with fail
    refine (xI _ _ _ H3.out _).mono ?_
    rintro e w2 ⟨rfl,rfl⟩
    cases b3 with
    | false=>
     have HV:=aj (show ¬cB ((x0,x1),x2,x3,x4,x5,x6,(x7,x8),x9,x10,aR,aW,L) from fun h=>by have h2:=h.2.2.2.1;rw [H3.out] at h2;cases h2)
     go_wp2
     go_ret
     exact aA HV.out HB1.out
    | true=>
     go_wp2_with fail
     refine (xI _ _ _ H4.out _).mono ?_
     rintro e w2 ⟨rfl,rfl⟩
     cases b4 with
     | false=>
      have HV:=aj (show ¬cB ((x0,x1),x2,x3,x4,x5,x6,(x7,x8),x9,x10,aR,aW,L) from fun h=>by have h2:=h.2.2.2.2.1;rw [H4.out] at h2;cases h2)
      go_wp2
      go_ret
      exact aA HV.out HB1.out
     | true=>
      go_wp2_with fail
      refine (xI _ _ _ H5.out _).mono ?_
      rintro e w2 ⟨rfl,rfl⟩
      cases b5 with
      | false=>
       have HV:=aj (show ¬cB ((x0,x1),x2,x3,x4,x5,x6,(x7,x8),x9,x10,aR,aW,L) from fun h=>by have h2:=h.2.2.2.2.2.1;rw [H5.out] at h2;cases h2)
       go_wp2
       go_ret
       exact aA HV.out HB1.out
      | true=>
       go_wp2_with fail
       refine (Ol _ H6.out _).mono ?_
       rintro e w2 ⟨rfl,rfl⟩
       cases b6 with
       | false=>
        have HV:=aj (show ¬cB ((x0,x1),x2,x3,x4,x5,x6,(x7,x8),x9,x10,aR,aW,L) from fun h=>by have h2:=h.2.2.2.2.2.2.1;rw [H6.out] at h2;cases h2)
        go_wp2
        go_ret
        exact aA HV.out HB1.out
       | true=>
        go_wp2_with fail
        refine (xI _ _ _ H7.out _).mono ?_
        rintro e w2 ⟨rfl,rfl⟩
        cases b7 with
        | false=>
         have HV:=aj (show ¬cB ((x0,x1),x2,x3,x4,x5,x6,(x7,x8),x9,x10,aR,aW,L) from fun h=>by have h2:=(Er h).1;rw [H7.out] at h2;cases h2)
         go_wp2
         go_ret
         exact aA HV.out HB1.out
        | true=>
         by_cases h9:x9=0
         ·have h9':(x9==0)=true:=beq_iff_eq.2 h9
          have Xo:(x9 != 0)=false:=by simp [h9]
          obtain ⟨q,hq⟩:∃ q,decide (((x7,x8):Int×Int)=(0,0))=q:=⟨_,rfl⟩
          have hqq:=wh x7 x8 0 0 q hq
          have HQ:=aj hq
          have H9:=aj h9
          clear hq h9
          cases q with
          | false=>
           have HV:=aj (show ¬cB ((x0,x1),x2,x3,x4,x5,x6,(x7,x8),x9,x10,aR,aW,L) from fun h=>by have h2:=(o7 h).1.1 H9.out;exact of_decide_eq_false HQ.out (by rw [h2.1,h2.2]))
           go_wp2
           go_ret
           exact aA HV.out HB1.out
          | true=>
           have HD:=aj (show xC x0 x1 x2 x7 x8 x9 from ⟨fun _=>by have h2:=of_decide_eq_true HQ.out;simpa using h2,fun h=>absurd H9.out h⟩)
           by_cases h2:aR=2
           ·have h2':(aR==2)=true:=beq_iff_eq.2 h2
            have HS:=aj (show Has aR L from Or.inl h2)
            go_wp2_with fail
            refine (oJ _ FE.out _).mono ?_
            rintro e w9 ⟨rfl,rfl⟩
            cases b10 with
            | false=>
             have HV:=aj (show ¬cB ((x0,x1),x2,x3,x4,x5,x6,(x7,x8),x9,x10,aR,aW,L) from fun h=>by have h2:=((kT h).1 HS.out).1;rw [FE.out] at h2;cases h2)
             go_wp2
             go_ret
             exact aA HV.out HB1.out
            | true=>
             by_cases hl:(L.length:Int)=x4
             ·have hl':((L.length:Int)==x4)=true:=beq_iff_eq.2 hl
              have HL:=aj hl
              clear hl
              go_wp2_with fail
              refine (kG ((H.out.below cO HB1.out).more cO hz1)).mono ?_
              intro e w3 h
              obtain ⟨b,rfl,hb,hw⟩:=bA h
              have HB:=aj (HB1.out.trans (hw.mono hz1))
              have HV:=aj (show (b=true↔cB ((x0,x1),x2,x3,x4,x5,x6,(x7,x8),x9,x10,aR,aW,L)) from hb.trans ⟨fun hN=>⟨H0.out,H1.out,H2.out,H3.out,H4.out,H5.out,H6.out,H7.out,HD.out,fun _=>⟨FE.out,HL.out,hN⟩,fun h=>absurd HS.out h⟩,fun h=>((kT h).1 HS.out).2.2⟩)
              clear h hb hw
              go_wp2
              go_ret
              exact ⟨b,rfl,HV.out,HB.out⟩
             ·have hl':((L.length:Int)==x4)=false:=beq_eq_false_iff_ne.2 hl
              have HV:=aj (show ¬cB ((x0,x1),x2,x3,x4,x5,x6,(x7,x8),x9,x10,aR,aW,L) from fun h=>hl ((kT h).1 HS.out).2.1)
              go_wp2
              go_ret
              exact aA HV.out HB1.out
           ·have h2':(aR==2)=false:=beq_eq_false_iff_ne.2 h2
            by_cases h1:aR=1
            ·have h1':(aR==1)=true:=beq_iff_eq.2 h1
             by_cases hp:0<L.length
             ·have hp':decide ((0:Int)<(L.length:Int))=true:=eO (by omega)
              have HS:=aj (show Has aR L from Or.inr ⟨h1,hp⟩)
              go_wp2_with fail
              refine (oJ _ FE.out _).mono ?_
              rintro e w9 ⟨rfl,rfl⟩
              cases b10 with
              | false=>
               have HV:=aj (show ¬cB ((x0,x1),x2,x3,x4,x5,x6,(x7,x8),x9,x10,aR,aW,L) from fun h=>by have h2:=((kT h).1 HS.out).1;rw [FE.out] at h2;cases h2)
               go_wp2
               go_ret
               exact aA HV.out HB1.out
              | true=>
               by_cases hl:(L.length:Int)=x4
               ·have hl':((L.length:Int)==x4)=true:=beq_iff_eq.2 hl
                have HL:=aj hl
                clear hl
                go_wp2_with fail
                refine (kG ((H.out.below cO HB1.out).more cO hz1)).mono ?_
                intro e w3 h
                obtain ⟨b,rfl,hb,hw⟩:=bA h
                have HB:=aj (HB1.out.trans (hw.mono hz1))
                have HV:=aj (show (b=true↔cB ((x0,x1),x2,x3,x4,x5,x6,(x7,x8),x9,x10,aR,aW,L)) from hb.trans ⟨fun hN=>⟨H0.out,H1.out,H2.out,H3.out,H4.out,H5.out,H6.out,H7.out,HD.out,fun _=>⟨FE.out,HL.out,hN⟩,fun h=>absurd HS.out h⟩,fun h=>((kT h).1 HS.out).2.2⟩)
                clear h hb hw
                go_wp2
                go_ret
                exact ⟨b,rfl,HV.out,HB.out⟩
               ·have hl':((L.length:Int)==x4)=false:=beq_eq_false_iff_ne.2 hl
                have HV:=aj (show ¬cB ((x0,x1),x2,x3,x4,x5,x6,(x7,x8),x9,x10,aR,aW,L) from fun h=>hl ((kT h).1 HS.out).2.1)
                go_wp2
                go_ret
                exact aA HV.out HB1.out
             ·have hp':decide ((0:Int)<(L.length:Int))=false:=dU (by omega)
              have HS:=aj (show ¬Has aR L from fun h=>h.elim h2 (fun h=>hp h.2))
              by_cases h7:aW=0
              ·have RX:(aW==0)=true:=beq_iff_eq.2 h7
               have R6:=aj h7
               clear h7
               obtain rfl:L = []:=List.eq_nil_of_length_eq_zero (by omega)
               clear hp hp' hn
               have HV:=aj (show cB ((x0,x1),x2,x3,x4,x5,x6,(x7,x8),x9,x10,aR,aW,[]) from ⟨H0.out,H1.out,H2.out,H3.out,H4.out,H5.out,H6.out,H7.out,HD.out,fun h=>absurd h HS.out,fun _=>⟨R6.out,rfl⟩⟩)
               go_wp2
               go_ret
               exact bO HV.out HB1.out
              ·have RX:(aW==0)=false:=beq_eq_false_iff_ne.2 h7
               have HV:=aj (show ¬cB ((x0,x1),x2,x3,x4,x5,x6,(x7,x8),x9,x10,aR,aW,L) from fun h=>h7 ((iV h) HS.out).1)
               go_wp2
               go_ret
               exact aA HV.out HB1.out
            ·have h1':(aR==1)=false:=beq_eq_false_iff_ne.2 h1
             have HS:=aj (show ¬Has aR L from fun h=>h.elim h2 (fun h=>h1 h.1))
             by_cases h7:aW=0
             ·have RX:(aW==0)=true:=beq_iff_eq.2 h7
              have R6:=aj h7
              clear h7
              by_cases hl:L.length=0
              ·have hl':((L.length:Int)==0)=true:=beq_iff_eq.2 (by omega)
               have HL:=aj hl
               clear hl
               have HV:=aj (show cB ((x0,x1),x2,x3,x4,x5,x6,(x7,x8),x9,x10,aR,aW,L) from ⟨H0.out,H1.out,H2.out,H3.out,H4.out,H5.out,H6.out,H7.out,HD.out,fun h=>absurd h HS.out,fun _=>⟨R6.out,HL.out⟩⟩)
               go_wp2
               go_ret
               exact bO HV.out HB1.out
              ·have hl':((L.length:Int)==0)=false:=beq_eq_false_iff_ne.2 (by omega)
               have HV:=aj (show ¬cB ((x0,x1),x2,x3,x4,x5,x6,(x7,x8),x9,x10,aR,aW,L) from fun h=>hl ((iV h) HS.out).2)
               go_wp2
               go_ret
               exact aA HV.out HB1.out
             ·have RX:(aW==0)=false:=beq_eq_false_iff_ne.2 h7
              have HV:=aj (show ¬cB ((x0,x1),x2,x3,x4,x5,x6,(x7,x8),x9,x10,aR,aW,L) from fun h=>h7 ((iV h) HS.out).1)
              go_wp2
              go_ret
              exact aA HV.out HB1.out
         ·have h9':(x9==0)=false:=beq_eq_false_iff_ne.2 h9
          have Xo:(x9 != 0)=true:=by simp [h9]
          have H9:=aj h9
          clear h9
          go_wp2_with fail
          refine (xI _ _ _ H8.out _).mono ?_
          rintro e w2 ⟨rfl,rfl⟩
          cases b8 with
          | false=>
           have HV:=aj (show ¬cB ((x0,x1),x2,x3,x4,x5,x6,(x7,x8),x9,x10,aR,aW,L) from fun h=>by have h2:=((o7 h).1.2 H9.out).1;rw [H8.out] at h2;cases h2)
           go_wp2
           go_ret
           exact aA HV.out HB1.out
          | true=>
           go_wp2_with fail
           refine (ZT _ _ _ _ yh.out _).mono ?_
           rintro e w2 ⟨rfl,hb⟩
           have iD:=aj (dh.out.call hb)
           have HB2:=aj (HB1.out.trans (hb.mono hz1))
           have hz2:W.heap.size≤w2.heap.size:=HB2.out.size
           clear hb
           clear p0 p1 p2 p3 p4 p5 p6 p7 p8 p9 RQ RP RO RN
           obtain ⟨p0,p1,p2,p3,p4,p5,p6,p7,p8,p9,RQ,RP,RO,RN⟩:=iD.out.fQ rfl
           cases b9 with
           | false=>
            have HV:=aj (show ¬cB ((x0,x1),x2,x3,x4,x5,x6,(x7,x8),x9,x10,aR,aW,L) from fun h=>by have h2:=((o7 h).1.2 H9.out).2.1;rw [yh.out] at h2;cases h2)
            go_wp2
            go_ret
            exact aA HV.out HB2.out
           | true=>
            obtain ⟨q,hq⟩:∃ q,decide (((x7,x8):Int×Int)=(x0,x1))=q:=⟨_,rfl⟩
            have hqq:=iK x7 x8 x0 x1 q hq
            have HQ:=aj hq
            clear hq
            cases q with
            | false=>
             have HD:=aj (show xC x0 x1 x2 x7 x8 x9 from ⟨fun h=>absurd h H9.out,fun _=>⟨H8.out,yh.out,fun h=>of_decide_eq_false HQ.out (by rw [h.1.1,h.1.2])⟩⟩)
             by_cases h2:aR=2
             ·have h2':(aR==2)=true:=beq_iff_eq.2 h2
              have HS:=aj (show Has aR L from Or.inl h2)
              go_wp2_with fail
              refine (oJ _ FE.out _).mono ?_
              rintro e w9 ⟨rfl,rfl⟩
              cases b10 with
              | false=>
               have HV:=aj (show ¬cB ((x0,x1),x2,x3,x4,x5,x6,(x7,x8),x9,x10,aR,aW,L) from fun h=>by have h2:=((kT h).1 HS.out).1;rw [FE.out] at h2;cases h2)
               go_wp2
               go_ret
               exact aA HV.out HB2.out
              | true=>
               by_cases hl:(L.length:Int)=x4
               ·have hl':((L.length:Int)==x4)=true:=beq_iff_eq.2 hl
                have HL:=aj hl
                clear hl
                go_wp2_with fail
                refine (kG ((H.out.below cO HB2.out).more cO hz2)).mono ?_
                intro e w3 h
                obtain ⟨b,rfl,hb,hw⟩:=bA h
                have HB:=aj (HB2.out.trans (hw.mono hz2))
                have HV:=aj (show (b=true↔cB ((x0,x1),x2,x3,x4,x5,x6,(x7,x8),x9,x10,aR,aW,L)) from hb.trans ⟨fun hN=>⟨H0.out,H1.out,H2.out,H3.out,H4.out,H5.out,H6.out,H7.out,HD.out,fun _=>⟨FE.out,HL.out,hN⟩,fun h=>absurd HS.out h⟩,fun h=>((kT h).1 HS.out).2.2⟩)
                clear h hb hw
                go_wp2
                go_ret
                exact ⟨b,rfl,HV.out,HB.out⟩
               ·have hl':((L.length:Int)==x4)=false:=beq_eq_false_iff_ne.2 hl
                have HV:=aj (show ¬cB ((x0,x1),x2,x3,x4,x5,x6,(x7,x8),x9,x10,aR,aW,L) from fun h=>hl ((kT h).1 HS.out).2.1)
                go_wp2
                go_ret
                exact aA HV.out HB2.out
             ·have h2':(aR==2)=false:=beq_eq_false_iff_ne.2 h2
              by_cases h1:aR=1
              ·have h1':(aR==1)=true:=beq_iff_eq.2 h1
               by_cases hp:0<L.length
               ·have hp':decide ((0:Int)<(L.length:Int))=true:=eO (by omega)
                have HS:=aj (show Has aR L from Or.inr ⟨h1,hp⟩)
                go_wp2_with fail
                refine (oJ _ FE.out _).mono ?_
                rintro e w9 ⟨rfl,rfl⟩
                cases b10 with
                | false=>
                 have HV:=aj (show ¬cB ((x0,x1),x2,x3,x4,x5,x6,(x7,x8),x9,x10,aR,aW,L) from fun h=>by have h2:=((kT h).1 HS.out).1;rw [FE.out] at h2;cases h2)
                 go_wp2
                 go_ret
                 exact aA HV.out HB2.out
                | true=>
                 by_cases hl:(L.length:Int)=x4
                 ·have hl':((L.length:Int)==x4)=true:=beq_iff_eq.2 hl
                  have HL:=aj hl
                  clear hl
                  go_wp2_with fail
                  refine (kG ((H.out.below cO HB2.out).more cO hz2)).mono ?_
                  intro e w3 h
                  obtain ⟨b,rfl,hb,hw⟩:=bA h
                  have HB:=aj (HB2.out.trans (hw.mono hz2))
                  have HV:=aj (show (b=true↔cB ((x0,x1),x2,x3,x4,x5,x6,(x7,x8),x9,x10,aR,aW,L)) from hb.trans ⟨fun hN=>⟨H0.out,H1.out,H2.out,H3.out,H4.out,H5.out,H6.out,H7.out,HD.out,fun _=>⟨FE.out,HL.out,hN⟩,fun h=>absurd HS.out h⟩,fun h=>((kT h).1 HS.out).2.2⟩)
                  clear h hb hw
                  go_wp2
                  go_ret
                  exact ⟨b,rfl,HV.out,HB.out⟩
                 ·have hl':((L.length:Int)==x4)=false:=beq_eq_false_iff_ne.2 hl
                  have HV:=aj (show ¬cB ((x0,x1),x2,x3,x4,x5,x6,(x7,x8),x9,x10,aR,aW,L) from fun h=>hl ((kT h).1 HS.out).2.1)
                  go_wp2
                  go_ret
                  exact aA HV.out HB2.out
               ·have hp':decide ((0:Int)<(L.length:Int))=false:=dU (by omega)
                have HS:=aj (show ¬Has aR L from fun h=>h.elim h2 (fun h=>hp h.2))
                by_cases h7:aW=0
                ·have RX:(aW==0)=true:=beq_iff_eq.2 h7
                 have R6:=aj h7
                 clear h7
                 obtain rfl:L = []:=List.eq_nil_of_length_eq_zero (by omega)
                 clear hp hp' hn
                 have HV:=aj (show cB ((x0,x1),x2,x3,x4,x5,x6,(x7,x8),x9,x10,aR,aW,[]) from ⟨H0.out,H1.out,H2.out,H3.out,H4.out,H5.out,H6.out,H7.out,HD.out,fun h=>absurd h HS.out,fun _=>⟨R6.out,rfl⟩⟩)
                 go_wp2
                 go_ret
                 exact bO HV.out HB2.out
                ·have RX:(aW==0)=false:=beq_eq_false_iff_ne.2 h7
                 have HV:=aj (show ¬cB ((x0,x1),x2,x3,x4,x5,x6,(x7,x8),x9,x10,aR,aW,L) from fun h=>h7 ((iV h) HS.out).1)
                 go_wp2
                 go_ret
                 exact aA HV.out HB2.out
              ·have h1':(aR==1)=false:=beq_eq_false_iff_ne.2 h1
               have HS:=aj (show ¬Has aR L from fun h=>h.elim h2 (fun h=>h1 h.1))
               by_cases h7:aW=0
               ·have RX:(aW==0)=true:=beq_iff_eq.2 h7
                have R6:=aj h7
                clear h7
                by_cases hl:L.length=0
                ·have hl':((L.length:Int)==0)=true:=beq_iff_eq.2 (by omega)
                 have HL:=aj hl
                 clear hl
                 have HV:=aj (show cB ((x0,x1),x2,x3,x4,x5,x6,(x7,x8),x9,x10,aR,aW,L) from ⟨H0.out,H1.out,H2.out,H3.out,H4.out,H5.out,H6.out,H7.out,HD.out,fun h=>absurd h HS.out,fun _=>⟨R6.out,HL.out⟩⟩)
                 go_wp2
                 go_ret
                 exact bO HV.out HB2.out
                ·have hl':((L.length:Int)==0)=false:=beq_eq_false_iff_ne.2 (by omega)
                 have HV:=aj (show ¬cB ((x0,x1),x2,x3,x4,x5,x6,(x7,x8),x9,x10,aR,aW,L) from fun h=>hl ((iV h) HS.out).2)
                 go_wp2
                 go_ret
                 exact aA HV.out HB2.out
               ·have RX:(aW==0)=false:=beq_eq_false_iff_ne.2 h7
                have HV:=aj (show ¬cB ((x0,x1),x2,x3,x4,x5,x6,(x7,x8),x9,x10,aR,aW,L) from fun h=>h7 ((iV h) HS.out).1)
                go_wp2
                go_ret
                exact aA HV.out HB2.out
            | true=>
             by_cases hle:x2≤x9
             ·have hle':decide (x2≤x9)=true:=eO hle
              have HV:=aj (show ¬cB ((x0,x1),x2,x3,x4,x5,x6,(x7,x8),x9,x10,aR,aW,L) from fun h=>((o7 h).1.2 H9.out).2.2 ⟨by have h2:=of_decide_eq_true HQ.out;simpa using h2,hle⟩)
              go_wp2
              go_ret
              exact aA HV.out HB2.out
             ·have hle':decide (x2≤x9)=false:=dU hle
              have HD:=aj (show xC x0 x1 x2 x7 x8 x9 from ⟨fun h=>absurd h H9.out,fun _=>⟨H8.out,yh.out,fun h=>hle h.2⟩⟩)
              by_cases h2:aR=2
              ·have h2':(aR==2)=true:=beq_iff_eq.2 h2
               have HS:=aj (show Has aR L from Or.inl h2)
               go_wp2_with fail
               refine (oJ _ FE.out _).mono ?_
               rintro e w9 ⟨rfl,rfl⟩
               cases b10 with
               | false=>
                have HV:=aj (show ¬cB ((x0,x1),x2,x3,x4,x5,x6,(x7,x8),x9,x10,aR,aW,L) from fun h=>by have h2:=((kT h).1 HS.out).1;rw [FE.out] at h2;cases h2)
                go_wp2
                go_ret
                exact aA HV.out HB2.out
               | true=>
                by_cases hl:(L.length:Int)=x4
                ·have hl':((L.length:Int)==x4)=true:=beq_iff_eq.2 hl
                 have HL:=aj hl
                 clear hl
                 go_wp2_with fail
                 refine (kG ((H.out.below cO HB2.out).more cO hz2)).mono ?_
                 intro e w3 h
                 obtain ⟨b,rfl,hb,hw⟩:=bA h
                 have HB:=aj (HB2.out.trans (hw.mono hz2))
                 have HV:=aj (show (b=true↔cB ((x0,x1),x2,x3,x4,x5,x6,(x7,x8),x9,x10,aR,aW,L)) from hb.trans ⟨fun hN=>⟨H0.out,H1.out,H2.out,H3.out,H4.out,H5.out,H6.out,H7.out,HD.out,fun _=>⟨FE.out,HL.out,hN⟩,fun h=>absurd HS.out h⟩,fun h=>((kT h).1 HS.out).2.2⟩)
                 clear h hb hw
                 go_wp2
                 go_ret
                 exact ⟨b,rfl,HV.out,HB.out⟩
                ·have hl':((L.length:Int)==x4)=false:=beq_eq_false_iff_ne.2 hl
                 have HV:=aj (show ¬cB ((x0,x1),x2,x3,x4,x5,x6,(x7,x8),x9,x10,aR,aW,L) from fun h=>hl ((kT h).1 HS.out).2.1)
                 go_wp2
                 go_ret
                 exact aA HV.out HB2.out
              ·have h2':(aR==2)=false:=beq_eq_false_iff_ne.2 h2
               by_cases h1:aR=1
               ·have h1':(aR==1)=true:=beq_iff_eq.2 h1
                by_cases hp:0<L.length
                ·have hp':decide ((0:Int)<(L.length:Int))=true:=eO (by omega)
                 have HS:=aj (show Has aR L from Or.inr ⟨h1,hp⟩)
                 go_wp2_with fail
                 refine (oJ _ FE.out _).mono ?_
                 rintro e w9 ⟨rfl,rfl⟩
                 cases b10 with
                 | false=>
                  have HV:=aj (show ¬cB ((x0,x1),x2,x3,x4,x5,x6,(x7,x8),x9,x10,aR,aW,L) from fun h=>by have h2:=((kT h).1 HS.out).1;rw [FE.out] at h2;cases h2)
                  go_wp2
                  go_ret
                  exact aA HV.out HB2.out
                 | true=>
                  by_cases hl:(L.length:Int)=x4
                  ·have hl':((L.length:Int)==x4)=true:=beq_iff_eq.2 hl
                   have HL:=aj hl
                   clear hl
                   go_wp2_with fail
                   refine (kG ((H.out.below cO HB2.out).more cO hz2)).mono ?_
                   intro e w3 h
                   obtain ⟨b,rfl,hb,hw⟩:=bA h
                   have HB:=aj (HB2.out.trans (hw.mono hz2))
                   have HV:=aj (show (b=true↔cB ((x0,x1),x2,x3,x4,x5,x6,(x7,x8),x9,x10,aR,aW,L)) from hb.trans ⟨fun hN=>⟨H0.out,H1.out,H2.out,H3.out,H4.out,H5.out,H6.out,H7.out,HD.out,fun _=>⟨FE.out,HL.out,hN⟩,fun h=>absurd HS.out h⟩,fun h=>((kT h).1 HS.out).2.2⟩)
                   clear h hb hw
                   go_wp2
                   go_ret
                   exact ⟨b,rfl,HV.out,HB.out⟩
                  ·have hl':((L.length:Int)==x4)=false:=beq_eq_false_iff_ne.2 hl
                   have HV:=aj (show ¬cB ((x0,x1),x2,x3,x4,x5,x6,(x7,x8),x9,x10,aR,aW,L) from fun h=>hl ((kT h).1 HS.out).2.1)
                   go_wp2
                   go_ret
                   exact aA HV.out HB2.out
                ·have hp':decide ((0:Int)<(L.length:Int))=false:=dU (by omega)
                 have HS:=aj (show ¬Has aR L from fun h=>h.elim h2 (fun h=>hp h.2))
                 by_cases h7:aW=0
                 ·have RX:(aW==0)=true:=beq_iff_eq.2 h7
                  have R6:=aj h7
                  clear h7
                  obtain rfl:L = []:=List.eq_nil_of_length_eq_zero (by omega)
                  clear hp hp' hn
                  have HV:=aj (show cB ((x0,x1),x2,x3,x4,x5,x6,(x7,x8),x9,x10,aR,aW,[]) from ⟨H0.out,H1.out,H2.out,H3.out,H4.out,H5.out,H6.out,H7.out,HD.out,fun h=>absurd h HS.out,fun _=>⟨R6.out,rfl⟩⟩)
                  go_wp2
                  go_ret
                  exact bO HV.out HB2.out
                 ·have RX:(aW==0)=false:=beq_eq_false_iff_ne.2 h7
                  have HV:=aj (show ¬cB ((x0,x1),x2,x3,x4,x5,x6,(x7,x8),x9,x10,aR,aW,L) from fun h=>h7 ((iV h) HS.out).1)
                  go_wp2
                  go_ret
                  exact aA HV.out HB2.out
               ·have h1':(aR==1)=false:=beq_eq_false_iff_ne.2 h1
                have HS:=aj (show ¬Has aR L from fun h=>h.elim h2 (fun h=>h1 h.1))
                by_cases h7:aW=0
                ·have RX:(aW==0)=true:=beq_iff_eq.2 h7
                 have R6:=aj h7
                 clear h7
                 by_cases hl:L.length=0
                 ·have hl':((L.length:Int)==0)=true:=beq_iff_eq.2 (by omega)
                  have HL:=aj hl
                  clear hl
                  have HV:=aj (show cB ((x0,x1),x2,x3,x4,x5,x6,(x7,x8),x9,x10,aR,aW,L) from ⟨H0.out,H1.out,H2.out,H3.out,H4.out,H5.out,H6.out,H7.out,HD.out,fun h=>absurd h HS.out,fun _=>⟨R6.out,HL.out⟩⟩)
                  go_wp2
                  go_ret
                  exact bO HV.out HB2.out
                 ·have hl':((L.length:Int)==0)=false:=beq_eq_false_iff_ne.2 (by omega)
                  have HV:=aj (show ¬cB ((x0,x1),x2,x3,x4,x5,x6,(x7,x8),x9,x10,aR,aW,L) from fun h=>hl ((iV h) HS.out).2)
                  go_wp2
                  go_ret
                  exact aA HV.out HB2.out
                ·have RX:(aW==0)=false:=beq_eq_false_iff_ne.2 h7
                 have HV:=aj (show ¬cB ((x0,x1),x2,x3,x4,x5,x6,(x7,x8),x9,x10,aR,aW,L) from fun h=>h7 ((iV h) HS.out).1)
                 go_wp2
                 go_ret
                 exact aA HV.out HB2.out
end
end Go.Proofs.YtlhfiapfncikdaaGreatDoor.aP
