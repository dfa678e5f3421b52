import Derived.Test.YtlhfiapfncikdaaGreatDoorPU2
import Derived.Test.YtlhfiapfncikdaaGreatDoorPU4
set_option linter.unusedVariables false
set_option linter.unusedSimpArgs false
set_option maxRecDepth 100000
set_option maxHeartbeats 3200000
namespace Go.Proofs.YtlhfiapfncikdaaGreatDoor.fT
section
open Go.RowKit
def tN (c:Int):Prop:=97≤c∧c≤122
def vL (c:Int):Prop:=48≤c∧c≤57
def Good (k:Nat)(c:Int):Prop:=tN c∨(k≠0∧(vL c∨c=95))
def nC (s:ByteArray):Prop:=1≤s.size∧s.size≤20∧∀ k,(h:k<s.size)→Good k (s[k].toNat:Int)
def Res (P:Prop)(w:World)(e:Ending)(w':World):Prop:=∃ b:Bool,e=.returned (.bool b)∧(b=true↔P)∧w=w'
theorem Lf (c:Int)(w:World)(h1:97≤c)(h2:c≤122) :
 Calls Tryz.prog 239 #[.int .u8 c] w fun e w'=>e=.returned (.bool true)∧w=w':=by
 go_enter Tryz.func239,Tryz.ntmps239
 go_wp2
 go_ret
 exact ⟨rfl,rfl⟩
theorem QS (c:Int)(w:World)(h:¬tN c) :
 Calls Tryz.prog 239 #[.int .u8 c] w fun e w'=>e=.returned (.bool false)∧w=w':=by
 unfold tN at h
 by_cases h1:97≤c
 ·have h2:decide (c≤122)=false:=by simp;omega
  go_enter Tryz.func239,Tryz.ntmps239
  go_wp2
  go_ret
  exact ⟨rfl,rfl⟩
 ·go_enter Tryz.func239,Tryz.ntmps239
  go_wp2
  go_ret
  exact ⟨rfl,rfl⟩
theorem Q5 (c:Int)(w:World)(h1:48≤c)(h2:c≤57) :
 Calls Tryz.prog 240 #[.int .u8 c] w fun e w'=>e=.returned (.bool true)∧w=w':=by
 go_enter Tryz.func240,Tryz.ntmps240
 go_wp2
 go_ret
 exact ⟨rfl,rfl⟩
theorem Ws (c:Int)(w:World)(h:¬vL c) :
 Calls Tryz.prog 240 #[.int .u8 c] w fun e w'=>e=.returned (.bool false)∧w=w':=by
 unfold vL at h
 by_cases h1:48≤c
 ·have h2:decide (c≤57)=false:=by simp;omega
  go_enter Tryz.func240,Tryz.ntmps240
  go_wp2
  go_ret
  exact ⟨rfl,rfl⟩
 ·go_enter Tryz.func240,Tryz.ntmps240
  go_wp2
  go_ret
  exact ⟨rfl,rfl⟩
theorem kC {P:Prop}{w:World}(b:Bool)(h:b=true↔P):Res P w (.returned (.bool b)) w:=⟨b,rfl,h,rfl⟩
theorem all_succ {s:ByteArray}{k:Nat}(hall:∀ j,(h:j<s.size)→j<k→Good j (s[j].toNat:Int))(hk:k<s.size)(hg:Good k (s[k].toNat:Int)) :
 ∀ j,(h:j<s.size)→j<k+1→Good j (s[j].toNat:Int):=by
 intro j hj hlt
 by_cases e:j=k
 ·subst e;exact hg
 ·exact hall j hj (by omega)
theorem GV {s:ByteArray}{k:Nat}(hk:k<s.size)(hg:¬Good k (s[k].toNat:Int)):¬nC s:=fun h=>hg (h.2.2 k hk)
theorem GD {s:ByteArray}{k:Nat}(h1:1≤s.size)(h2:s.size≤20)(hall:∀ j,(h:j<s.size)→j<k→Good j (s[j].toNat:Int))(hk:¬k<s.size):nC s:=
 ⟨h1,h2,fun j hj=>hall j hj (by omega)⟩
theorem zX {a b:Int}(h:¬a≤b):decide (a≤b)=false:=by simpa using h
theorem le_t {a b:Int}(h:a≤b):decide (a≤b)=true:=by simpa using h
theorem ne_f {a b:Int}(h:a=b):(a != b)=false:=by simp [h]
theorem ne_t {a b:Int}(h:¬a=b):(a != b)=true:=by simp [h]
theorem eq_f {k:Nat}(h:k≠0):((k:Int)==0)=false:=by simp;omega
theorem GK (s:ByteArray)(w:World)(hs:s.size≤maxLen) :
 Calls Tryz.prog 163 #[.string s] w (Res (nC s) w):=by
 unfold maxLen at hs
 by_cases h1:1≤s.size
 ·by_cases h2:s.size≤20
  ·go_enter Tryz.func163,Tryz.ntmps163
   go_wp2
   go_loop [3] (fun i=>∃ k:Nat,k≤s.size∧i=.int .i64 k∧∀ j,(h:j<s.size)→j<k→Good j (s[j].toNat:Int)) (fun i=>s.size-(intOf i).toNat)
   case atStart=>exact ⟨0,Nat.zero_le _,rfl,fun j _ h=>absurd h (Nat.not_lt_zero _)⟩
   case round=>
    obtain ⟨k,hk,rfl,hall⟩:=hrel
    by_cases hlt:k<s.size
    ·by_cases hg:Good k (s[k].toNat:Int)
     ·have Hall:=Lib.hid (all_succ hall hlt hg)
      clear hall
      have fin:∀ c:Int,Good k c→(97≤c∧decide (c≤122)=true)∨(¬97≤c∧((k:Int)==0)=false∧48≤c∧decide (c≤57)=true)∨(¬97≤c∧((k:Int)==0)=false∧48≤c∧decide (c≤57)=false∧(c != 95)=false):=by
       intro c hc
       rcases hc with ⟨a,b⟩ | ⟨a,⟨b,d⟩ | b⟩
       ·exact .inl ⟨a,le_t b⟩
       ·exact .inr (.inl ⟨by omega,eq_f a,b,le_t d⟩)
       ·exact .inr (.inr ⟨by omega,eq_f a,by omega,zX (by omega),ne_f b⟩)
      have fin2:=fin _ hg
      clear fin hg
      rcases fin2 with ⟨a,b⟩ | ⟨a,b,d,e⟩ | ⟨a,b,d,e,g⟩
      all_goals
       go_wp2
       go_round
       case rel=>exact ⟨k+1,by omega,by go_num,Hall.out⟩
       case measure=>simp [intOf];omega
     ·have Hn:=Lib.hid (GV hlt hg)
      clear hall
      by_cases hk0:k=0
      ·subst hk0
       by_cases h97:97≤(s[0].toNat:Int)
       ·have b1:=zX (a:=(s[0].toNat:Int)) (b:=122) (fun h=>hg (.inl ⟨h97,h⟩))
        clear hg
        go_wp2
        go_ret
        exact kC false (by simpa using Hn.out)
       ·clear hg
        go_wp2
        go_ret
        exact kC false (by simpa using Hn.out)
      ·have b0:=eq_f hk0
       have b2:=ne_t (a:=(s[k].toNat:Int)) (b:=95) (fun h=>hg (.inr ⟨hk0,.inr h⟩))
       by_cases h97:97≤(s[k].toNat:Int)
       ·have b1:=zX (a:=(s[k].toNat:Int)) (b:=122) (fun h=>hg (.inl ⟨h97,h⟩))
        have b3:=zX (a:=(s[k].toNat:Int)) (b:=57) (by omega)
        have b4:48≤(s[k].toNat:Int):=by omega
        clear hg hk0
        go_wp2
        go_ret
        exact kC false (by simpa using Hn.out)
       ·by_cases h48:48≤(s[k].toNat:Int)
        ·have b3:=zX (a:=(s[k].toNat:Int)) (b:=57) (fun h=>hg (.inr ⟨hk0,.inl ⟨h48,h⟩⟩))
         clear hg hk0
         go_wp2
         go_ret
         exact kC false (by simpa using Hn.out)
        ·clear hg hk0
         go_wp2
         go_ret
         exact kC false (by simpa using Hn.out)
    ·have Hy:=Lib.hid (GD h1 h2 hall hlt)
     clear hall
     go_wp2
     go_ret
     exact kC true (by simpa using Hy.out)
  ·have hn:¬nC s:=fun h=>h2 h.2.1
   have Hn:=Lib.hid hn
   clear hn
   go_enter Tryz.func163,Tryz.ntmps163
   go_wp2
   go_ret
   exact kC false (by simpa using Hn.out)
 ·have hn:¬nC s:=fun h=>h1 h.1
  have Hn:=Lib.hid hn
  clear hn
  go_enter Tryz.func163,Tryz.ntmps163
  go_wp2
  go_ret
  exact kC false (by simpa using Hn.out)
def FY (c:Int):Bool:=decide (97≤c)&&decide (c≤122)
def J6 (c:Int):Bool:=decide (48≤c)&&decide (c≤57)
theorem Kl {c:Int}(h:tN c):FY c=true:=by unfold tN at h;simp [FY];omega
theorem AP {c:Int}(h:¬tN c):FY c=false:=by unfold tN at h;simp [FY];omega
theorem U1 {c:Int}(h:vL c):J6 c=true:=by unfold vL at h;simp [J6];omega
theorem Kn {c:Int}(h:¬vL c):J6 c=false:=by unfold vL at h;simp [J6];omega
theorem qb (c:Int)(w:World):Calls Tryz.prog 239 #[.int .u8 c] w fun e w'=>e=.returned (.bool (FY c))∧w=w':=by
 by_cases h:tN c
 ·rw [Kl h];exact Lf c w h.1 h.2
 ·rw [AP h];exact QS c w h
theorem xZ (c:Int)(w:World):Calls Tryz.prog 240 #[.int .u8 c] w fun e w'=>e=.returned (.bool (J6 c))∧w=w':=by
 by_cases h:vL c
 ·rw [U1 h];exact Q5 c w h.1 h.2
 ·rw [Kn h];exact Ws c w h
theorem Ht (s:ByteArray)(w:World)(hs:s.size≤maxLen) :
 Calls Tryz.prog 197 #[.string s] w (Res (nC s) w):=by
 unfold maxLen at hs
 by_cases h1:1≤s.size
 ·by_cases h2:s.size≤20
  ·by_cases hl:tN (s[0].toNat:Int)
   ·have HL:=Lib.hid hl
    have bl:=Kl hl
    clear hl
    go_enter Tryz.func197,Tryz.ntmps197
    go_wp2_with (first | (go_at_call 239;refine (qb _ _).mono ?_;rintro e w' ⟨rfl,rfl⟩) | (go_at_call 240;refine (xZ _ _).mono ?_;rintro e w' ⟨rfl,rfl⟩))
    go_loop [20] (fun i=>∃ k:Nat,k≤s.size∧i=.int .i64 k∧∀ j,(h:j<s.size)→j<k→Good j (s[j].toNat:Int)) (fun i=>s.size-(intOf i).toNat)
    case atStart=>exact ⟨0,Nat.zero_le _,rfl,fun j _ h=>absurd h (Nat.not_lt_zero _)⟩
    case round=>
     obtain ⟨k,hk,rfl,hall⟩:=hrel
     by_cases hlt:k<s.size
     ·by_cases hg:Good k (s[k].toNat:Int)
      ·have Hall:=Lib.hid (all_succ hall hlt hg)
       clear hall
       have fin:∀ c:Int,Good k c→FY c=true∨(FY c=false∧J6 c=true)∨(FY c=false∧J6 c=false∧(c != 95)=false):=by
        intro c hc
        by_cases a:tN c
        ·exact .inl (Kl a)
        ·by_cases b:vL c
         ·exact .inr (.inl ⟨AP a,U1 b⟩)
         ·rcases hc with d | ⟨_,d | d⟩
          ·exact absurd d a
          ·exact absurd d b
          ·exact .inr (.inr ⟨AP a,Kn b,ne_f d⟩)
       have fin2:=fin _ hg
       clear fin hg bl
       rcases fin2 with a | ⟨a,b⟩ | ⟨a,b,d⟩
       all_goals
        go_wp2_with (first | (go_at_call 239;refine (qb _ _).mono ?_;rintro e w' ⟨rfl,rfl⟩) | (go_at_call 240;refine (xZ _ _).mono ?_;rintro e w' ⟨rfl,rfl⟩))
        go_round
        case rel=>exact ⟨k+1,by omega,by go_num,Hall.out⟩
        case measure=>simp [intOf];omega
      ·have Hn:=Lib.hid (GV hlt hg)
       clear hall
       by_cases hk0:k=0
       ·subst hk0
        exact absurd (.inl HL.out) hg
       ·have b1:=AP (fun h=>hg (.inl h))
        have b2:=Kn (fun h=>hg (.inr ⟨hk0,.inl h⟩))
        have b3:=ne_t (a:=(s[k].toNat:Int)) (b:=95) (fun h=>hg (.inr ⟨hk0,.inr h⟩))
        clear hg hk0 bl
        go_wp2_with (first | (go_at_call 239;refine (qb _ _).mono ?_;rintro e w' ⟨rfl,rfl⟩) | (go_at_call 240;refine (xZ _ _).mono ?_;rintro e w' ⟨rfl,rfl⟩))
        go_ret
        exact kC false (by simpa using Hn.out)
     ·have Hy:=Lib.hid (GD h1 h2 hall hlt)
      clear hall
      go_wp2
      go_ret
      exact kC true (by simpa using Hy.out)
   ·have hn:¬nC s:=fun h=>by
     rcases h.2.2 0 (by omega) with a | ⟨a,_⟩
     ·exact hl a
     ·exact a rfl
    have Hn:=Lib.hid hn
    have bl:=AP hl
    clear hn hl
    go_enter Tryz.func197,Tryz.ntmps197
    go_wp2_with (go_at_call 239;refine (qb _ _).mono ?_;rintro e w' ⟨rfl,rfl⟩)
    go_ret
    exact kC false (by simpa using Hn.out)
  ·have hn:¬nC s:=fun h=>h2 h.2.1
   have Hn:=Lib.hid hn
   clear hn
   go_enter Tryz.func197,Tryz.ntmps197
   go_wp2
   go_ret
   exact kC false (by simpa using Hn.out)
 ·have hn:¬nC s:=fun h=>h1 h.1
  have Hn:=Lib.hid hn
  clear hn
  go_enter Tryz.func197,Tryz.ntmps197
  go_wp2
  go_ret
  exact kC false (by simpa using Hn.out)
end
end Go.Proofs.YtlhfiapfncikdaaGreatDoor.fT
namespace Go.Proofs.YtlhfiapfncikdaaGreatDoor.aP
section
open Go.RowKit bN bP bJ bM fT
def Cr (a b:ByteArray):Bool:=Op.bytesLess a.toList b.toList
theorem EI (a b:ByteArray):Cr a b=true↔a.toList<b.toList:=by unfold Cr;rw [bytesLess_eq];simp
theorem U8 {a b:ByteArray}(h:a.toList=b.toList):a=b:=by
 rw [Lib.toList_data,Lib.toList_data] at h
 cases a;cases b
 simp only [ByteArray.mk.injEq]
 exact Array.toList_inj.1 h
theorem uM (a:ByteArray):Cr a a=false:=by
 rw [Bool.eq_false_iff,ne_eq,EI]
 exact List.lt_irrefl _
theorem Ql {a b c:ByteArray}(h1:Cr a b=true)(h2:Cr b c=true):Cr a c=true:=by
 rw [EI] at *
 exact List.lt_trans h1 h2
theorem Nq {a b:ByteArray}(h1:Cr a b=false)(h2:Cr b a=false):a=b:=by
 rw [Bool.eq_false_iff,ne_eq,EI] at *
 exact U8 (List.le_antisymm (List.not_lt.1 h2) (List.not_lt.1 h1))
theorem Qm {a b:ByteArray}(h1:Cr a b=true):Cr b a=false:=by
 rw [Bool.eq_false_iff]
 intro h2
 have:=Ql h1 h2
 rw [uM] at this
 cases this
def j3 (a b:av):Prop:=a.1<b.1∨(a.1=b.1∧a.2<b.2)
def CP (a b:av):Prop:=a=b∨j3 a b
theorem pY {a b c:av}(h1:j3 a b)(h2:j3 b c):j3 a c:=by unfold j3 at *;omega
theorem iH {a:av}:¬j3 a a:=by unfold j3;omega
theorem BM {a b c:av}(h1:CP a b)(h2:CP b c):CP a c:=by
 rcases h1 with rfl | h1
 ·exact h2
 ·rcases h2 with rfl | h2
  ·exact .inr h1
  ·exact .inr (pY h1 h2)
theorem QT {a b:av}(h1:CP a b)(h2:CP b a):a=b:=by
 rcases h1 with h | h1
 ·exact h
 ·rcases h2 with h | h2
  ·exact h.symm
  ·exact absurd (pY h1 h2) iH
def Z8 (x y:bH):Prop:=j3 x.1 y.1∨(x.1=y.1∧Cr x.2.1 y.2.1=true)
theorem Oq {x y:bH}(h:Z8 x y):CP x.1 y.1:=by
 rcases h with h | ⟨h,_⟩
 ·exact .inr h
 ·exact .inl h
def okU (x:bH):Prop:=dD.rB x.1.1 x.1.2=true∧nC x.2.1∧dI x.2.2 1 100000=true
def Yo (L:List bH)(i:Nat)(x:bH):Prop:=okU x∧(∀ y,0<i→L[i-1]? = some y→Z8 y x)∧∀ y,6≤i→L[i-6]? = some y→y.1≠x.1
def FQ (L:List bH)(k:Nat):Prop:=∀ i x,i<k→L[i]? = some x→Yo L i x
def yx (L:List bH):Prop:=L.length≤48∧∀ i x,L[i]? = some x→Yo L i x
open Classical in
noncomputable def Dj (L:List bH):Bool:=decide (yx L)
open Classical in
theorem lK {L:List bH}:Dj L=true↔yx L:=by unfold Dj;simp
theorem Dy {L:List bH}:FQ L 0:=fun i x h=>absurd h (gT _)
theorem lM {L:List bH}{k:Nat}{x:bH}(h:FQ L k)(hx:L[k]? = some x)(hk:Yo L k x):FQ L (k+1):=fun i y hi hy=>by
 rcases Nat.lt_succ_iff_lt_or_eq.1 hi with h1 | h1
 ·exact h i y h1 hy
 ·subst h1;rw [hx] at hy;cases hy;exact hk
theorem Dx {L:List bH}(h1:L.length≤48)(h:FQ L L.length):yx L:=⟨h1,fun i x hx=>h i x (List.getElem?_eq_some_iff.1 hx).1 hx⟩
theorem rH {P:Prop}{b:Bool}{w w':World}{e:Ending}(hb:b=true↔P)(h:jh P w e w'):sD b w e w':=by
 obtain ⟨c,rfl,hc,hB⟩:=h
 obtain rfl:c=b:=by
  cases c <;> cases b <;> first | rfl | exact absurd (hc.2 (hb.1 rfl)) (by decide) | exact absurd (hb.2 (hc.1 rfl)) (by decide)
 exact ⟨rfl,hB⟩
def OX (L:List bH)(k c:Nat):Prop:=(k=0∧c=0)∨(1≤c∧c≤k∧(∀ j x y,k-c≤j→j<k→L[j]? = some x→L[k-1]? = some y→x.1=y.1)∧∀ x y,c<k→L[k-c-1]? = some x→L[k-1]? = some y→x.1≠y.1)
theorem Qp {L:List bH}:OX L 0 0:=.inl ⟨rfl,rfl⟩
theorem MO {L:List bH}{k:Nat}(h:k<L.length):∃ x,L[k]? = some x:=⟨L[k],List.getElem?_eq_getElem h⟩
theorem Qq {L:List bH}{k c:Nat}{x y:bH}(h:OX L k c)(h0:0<k)(hy:L[k-1]? = some y)(hx:L[k]? = some x)(he:y.1=x.1):OX L (k+1) (c+1):=by
 rcases h with ⟨h,_⟩ | ⟨h1,h2,h3,h4⟩
 ·omega
 ·refine .inr ⟨by omega,by omega,fun j u v hj hj2 hu hv=>?_,fun u v hc hu hv=>?_⟩
  ·rw [Nat.add_sub_cancel] at hv
   rw [hx] at hv
   cases hv
   by_cases e:j=k
   ·subst e;rw [hx] at hu;cases hu;rfl
   ·exact (h3 j u y (by omega) (by omega) hu hy).trans he
  ·rw [Nat.add_sub_cancel] at hv
   rw [hx] at hv
   cases hv
   rw [←he]
   exact h4 u y (by omega) (by rw [show k-c-1=k+1-(c+1)-1 by omega];exact hu) hy
theorem GL {L:List bH}{k:Nat}{x:bH}(hx:L[k]? = some x)(h:∀ y,0<k→L[k-1]? = some y→y.1≠x.1):OX L (k+1) 1:=by
 refine .inr ⟨bK _,by omega,fun j u v hj hj2 hu hv=>?_,fun u v hc hu hv=>?_⟩
 ·rw [Nat.add_sub_cancel] at hv
  obtain rfl:j=k:=by omega
  rw [hu] at hv
  cases hv
  rfl
 ·rw [Nat.add_sub_cancel] at hv
  rw [hx] at hv
  cases hv
  exact h u (by omega) hu
theorem Dz {L:List bH}{k:Nat}(h:FQ L k)(hk:k≤L.length){i:Nat}{x:bH}(hx:L[i]? = some x):∀ {j:Nat}{y:bH},i≤j→j<k→L[j]? = some y→CP x.1 y.1:=by
 intro j
 induction j with
 | zero=>
  intro y hij _ hy
  obtain rfl:i=0:=by omega
  rw [hx] at hy;cases hy
  exact .inl rfl
 | succ j ih=>
  intro y hij hj hy
  by_cases e:i=j+1
  ·subst e;rw [hx] at hy;cases hy;exact .inl rfl
  ·obtain ⟨z,hz⟩:=MO (L:=L) (k:=j) (by omega)
   exact BM (ih (by omega) (by omega) hz) (Oq ((h (j+1) y hj hy).2.1 z (by omega) hz))
theorem EJ {L:List bH}{k c:Nat}{x:bH}(hT:FQ L k)(hx:L[k]? = some x)(ho:okU x)(hl:∀ y,0<k→L[k-1]? = some y→Z8 y x)(hr:OX L (k+1) c):c≤6↔∀ y,6≤k→L[k-6]? = some y→y.1≠x.1:=by
 have hk:k<L.length:=(List.getElem?_eq_some_iff.1 hx).1
 rcases hr with ⟨h,_⟩ | ⟨h1,h2,h3,h4⟩
 ·omega
 rw [Nat.add_sub_cancel] at h3 h4
 constructor
 ·intro hc y h6 hy he
  obtain ⟨z,hz⟩:=MO (L:=L) (k:=k+1-c-1) (by omega)
  have hlast:∀ {j:Nat} {u:bH},j<k→L[j]? = some u→CP u.1 x.1:=fun {j u} hj hu=>by
   obtain ⟨v,hv⟩:=MO (L:=L) (k:=k-1) (by omega)
   exact BM (Dz hT (by omega) hu (by omega) (by omega) hv) (Oq (hl v (by omega) hv))
  have e1:CP y.1 z.1:=Dz hT (by omega) hy (by omega) (by omega) hz
  have e2:CP z.1 x.1:=hlast (by omega) hz
  rw [he] at e1
  exact h4 z x (by omega) hz hx (QT e2 e1)
 ·intro h
  by_cases hc:c≤6
  ·exact hc
  ·exfalso
   obtain ⟨z,hz⟩:=MO (L:=L) (k:=k-6) (by omega)
   exact h z (by omega) hz (h3 (k-6) z x (by omega) (by omega) hz hx)
theorem Wj {w w':World}{B:Nat}{o:Option Nat}(h:w.grownBy w' o)(hv:∀ k,o=some k→B≤k)(hB:B≤w.heap.size):Below B w w':=
 ⟨h.os,h.tape,h.output,h.size,fun k hk=>h.block k (bV hk hB) (fun e=>by have:=hv k e.symm;omega)⟩
theorem ZC:(Tryz.prog.info? 128).map (fun i=>(i.zero,i.size,i.bytes))=some (some (.agg #[.int .i64 0,.int .i64 0,.string ⟨#[]⟩,.int .i64 0]),4,40):=by kernel_rfl
theorem Hg:∃ i,Tryz.prog.info? 128=some i∧i.zero=some (.agg #[.int .i64 0,.int .i64 0,.string ⟨#[]⟩,.int .i64 0])∧i.size=4∧i.bytes=40:=by
 have h:=ZC
 cases hx:Tryz.prog.info? 128 with
 | none=>rw [hx] at h;simp at h
 | some i=>rw [hx] at h;simp at h;exact ⟨i,rfl,h.1,h.2.1,h.2.2⟩
def lg (w:World)(lo:Nat)(v:Value)(L:List bH):Prop:=∃ xs hi,lo≤hi∧App bD w lo hi 128 v L xs (fun _ _=>False)
section
variable {w w':World}{lo:Nat}{v:Value}{L:List bH}
theorem lg.none_ (w:World):lg w w.heap.size (.slice none 0 0) []:=⟨[],w.heap.size,bK _,App.none_ _ _ _ (bK _)⟩
theorem lg.made (w:World):lg (w.alloc (.cells #[] 128)) w.heap.size (.slice (some ⟨w.heap.size,0,none⟩) 0 0) []:=⟨[],_,Nat.le_succ _,App.made _ _ _⟩
theorem lg.call (h:lg w lo v L)(hb:Below w.heap.size w w'):lg w' lo v L:=by
 obtain ⟨xs,hi,h0,h1⟩:=h
 exact ⟨xs,hi,h0,h1.call aT hb⟩
theorem lg.blk (h:lg w lo v L){k:Nat}(hk:v.ownBlock=some k):lo≤k∧k<w.heap.size:=by
 obtain ⟨xs,hi,h0,h1⟩:=h
 exact ⟨(h1.blk k hk).1,bV (h1.blk k hk).2 h1.le⟩
theorem lg.isSlice (h:lg w lo v L):∃ a cap,v=.slice a L.length cap:=by
 obtain ⟨xs,hi,h0,h1⟩:=h
 exact h1.isSlice
theorem lg.news (h:lg w' lo v L){w:World}(hlo:w.heap.size≤lo)(hb:Below w.heap.size w w'):jW bD L w (.returned v) w':=by
 obtain ⟨xs,hi,h0,h1⟩:=h
 obtain ⟨a,c,rfl,ho⟩:=h1.done
 exact ⟨a,c,rfl,ho.more fun k hk=>⟨eH hlo hk.1,bV hk.2 h1.le⟩,hb⟩
end
end
end Go.Proofs.YtlhfiapfncikdaaGreatDoor.aP
namespace Go.Proofs.YtlhfiapfncikdaaGreatDoor.Kq
section
open Go.RowKit
theorem zI:(Tryz.prog.info? 5).map (fun i=>(i.zero,i.size,i.bytes))=some (some (.int .u8 0),1,1):=by kernel_rfl
theorem zG {a b:ByteArray}(h:a=b):Ending.returned (.string a)=.returned (.string b):=by rw [h]
def bytesOf (l:List UInt8):ByteArray:=⟨l.toArray⟩
theorem xW:(Tryz.prog.info? 5).map (·.size)=some 1:=by kernel_rfl
theorem uS (w:World)(n:Int)(h0:0≤n)(h1:n≤140737488355328) :
 ∃ w1,(Instr.makeSlice 201 (.int .i64 n) (.int .i64 n)).run Tryz.prog w=.ok (.slice (some ⟨w.heap.size,0,none⟩) n.toNat n.toNat) w1 ∧
  (∃ cur:Array Value,cur.size=n.toNat∧w1.heap[w.heap.size]? = some (.cells cur 5 (0,0)))∧Below w.heap.size w w1∧w.heap.size<w1.heap.size:=by
 obtain ⟨i,hi,hz0,hz1,hz2⟩:=info_parts zI
 refine ⟨_,run_make w 201 5 i _ Tryz.underlying201 hi hz0 .i64 .i64 n n h0 (Int.le_refl _) (by rw [hz2];omega) (by omega),?_,(Below.refl _ _).alloc (Nat.le_refl _) _,?_⟩
 ·refine ⟨_,?_,heap_alloc_new _ _⟩
  rw [size_madeCells,hz1]
  omega
 ·show _<(w.heap.push _).size
  simp
theorem Bj (w:World)(g o dLen dCap:Nat)(s:ByteArray)(cur:Array Value)(ty:TypeId)(hg:w.heap[g]? = some (.cells cur 5 (0,0)))(hle:s.size≤dLen)(hfit:o+s.size≤cur.size) :
 ∃ w1,(Builtin.copy_ #[201,9] ty #[.slice (some ⟨g,o,none⟩) dLen dCap,.string s]).run Tryz.prog w=.ok (goInt s.size) w1 ∧
  w1.heap[g]? = some (.cells (cur.toList.take o++Lib.byteCells s.data.toList++cur.toList.drop (o+s.size)).toArray 5 (0,0))∧Below g w w1:=
 ⟨_,Lib.run_copy_row_string w 201 9 ty 5 g o dLen dCap s cur 5 Tryz.underlying201 xW hg hle hfit,setRow_heap w g cur _ _ _ hg,below_setRow (Below.refl _ _) (Nat.le_refl _) _⟩
theorem uK {w:World}{g:Nat}{l:List UInt8}(h:w.heap[g]? = some (.cells (Lib.byteCells l).toArray 5 (0,0)))(h0:l.length≠0)(hl:l.length≤9223372036854775807) :
 (Builtin.unsafeString_ #[285,3] 9 #[.pointer (some ⟨g,0,none⟩),.int .i64 l.length]).run Tryz.prog w=.ok (.string (bytesOf l)) (w.freeze ⟨g,0,none⟩ l.length):=
 Lib.run_unsafeString_row w 285 3 9 5 Tryz.underlying285 (by kernel_rfl) g l.length (by simp [World.shape?,h,Lib.byteCells]) l (fun e=>h0 (by rw [e];rfl)) (Nat.le_refl _) hl (fun j x hj=>by
  have hlt:=(List.getElem?_eq_some_iff.1 hj).1
  have e:(⟨g,0,none⟩:Addr).add j=⟨g,j,none⟩:=by cases j <;> simp [Addr.add]
  rw [e]
  rw [List.getElem?_eq_getElem hlt] at hj
  simp at hj
  subst hj
  simp [World.cell?,h,Lib.byteCells,hlt])
theorem uW (s:ByteArray)(w:World)(hs:s.size≤1048576) :
 Calls Tryz.prog 251 #[.string s] w fun e w'=>e=.returned (.string s)∧Below w.heap.size w w':=by
 by_cases h0:s.size=0
 ·have he:Hid (s=ByteArray.empty):=Lib.hid (ByteArray.ext (Array.eq_empty_of_size_eq_zero h0))
  have hb:((s.size:Int)==0)=true:=by simp [h0]
  go_enter Tryz.func251,Tryz.ntmps251
  go_wp2
  go_ret
  exact ⟨zG he.out.symm,Below.refl _ _⟩
 ·have hb:((s.size:Int)==0)=false:=by simp [h0]
  obtain ⟨w1,hmk,⟨cur,hcs,hg1⟩,hb1,hz1⟩:=uS w (s.size:Int) (by omega) (by omega)
  have hn:((s.size:Int)).toNat=s.size:=by omega
  rw [hn] at hmk hcs
  obtain ⟨w2,hc1,hg2,hb2⟩:=Bj w1 w.heap.size 0 s.size s.size s cur 3 hg1 (by omega) (by omega)
  have hg3:w2.heap[w.heap.size]? = some (.cells (Lib.byteCells s.data.toList).toArray 5 (0,0)):=by
   rw [hg2]
   have e:cur.toList.drop (0+s.size) = []:=List.drop_of_length_le (by simp [hcs])
   rw [e]
   simp
  have hun:=uK hg3 (by rw [←Lib.size_eq];exact h0) (by rw [←Lib.size_eq];omega)
  rw [←Lib.size_eq,show bytesOf s.data.toList=s from ByteArray.ext (by simp [bytesOf])] at hun
  have HB:Hid (Below w.heap.size w (w2.freeze ⟨w.heap.size,0,none⟩ s.size)):=Lib.hid (Lib.below_freeze (hb1.trans hb2) (Nat.le_refl _) _)
  have hp:0<s.size:=by omega
  clear hg1 hg2 hg3 hb1 hb2 hcs hz1 hn h0
  go_enter Tryz.func251,Tryz.ntmps251
  go_wp2
  go_ret
  exact ⟨rfl,HB.out⟩
theorem yc (s:ByteArray)(w:World)(hs:s.size≤1048576) :
 Calls Tryz.prog 213 #[.string s] w fun e w'=>e=.returned (.string s)∧Below w.heap.size w w':=by
 go_enter Tryz.func213,Tryz.ntmps213
 go_wp2_with fail
 refine (uW _ _ hs).mono ?_
 rintro e w1 ⟨rfl,hb1⟩
 have HB1:=Lib.hid hb1
 clear hb1
 go_wp2
 go_ret
 exact ⟨rfl,HB1.out⟩
end
end Go.Proofs.YtlhfiapfncikdaaGreatDoor.Kq
