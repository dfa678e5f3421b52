import Derived.Test.YtlhfiapfncikdaaGreatDoorPN2
import Derived.Test.YtlhfiapfncikdaaGreatDoorPN4
set_option linter.unusedVariables false
set_option linter.unusedSimpArgs false
set_option maxRecDepth 100000
set_option maxHeartbeats 3200000
namespace Go.Proofs.YtlhfiapfncikdaaGreatDoor
namespace eO
section
open Go.RowKit
def uh (c:Int):Prop:=97≤c∧c≤122
def vW (c:Int):Prop:=48≤c∧c≤57
def Good (k:Nat)(c:Int):Prop:=uh c∨(k≠0∧(vW c∨c=95))
def nM (s:ByteArray):Prop:=1≤s.size∧s.size≤20∧∀ k,(h:k<s.size)→Good k (s[k].toNat:Int)
def Res (P:Prop)(w:World)(e:Ending)(w':World):Prop:=∃ b:Bool,e=.returned (.bool b)∧(b=true↔P)∧w=w'
theorem LJ (c:Int)(w:World)(h1:97≤c)(h2:c≤122) :
 Calls Tryz.prog 239 #[.int .u8 c] w fun e w'=>e=.returned (.bool true)∧w=w':=by
 go_enter Tryz.func239,Tryz.ntmps239
 go_wp2
 go_ret
 exact ⟨rfl,rfl⟩
theorem Rq (c:Int)(w:World)(h:¬uh c) :
 Calls Tryz.prog 239 #[.int .u8 c] w fun e w'=>e=.returned (.bool false)∧w=w':=by
 unfold uh at h
 by_cases h1:97≤c
 ·have h2:decide (c≤122)=false:=by simp;omega
  go_enter Tryz.func239,Tryz.ntmps239
  go_wp2
  go_ret
  exact ⟨rfl,rfl⟩
 ·go_enter Tryz.func239,Tryz.ntmps239
  go_wp2
  go_ret
  exact ⟨rfl,rfl⟩
theorem RB (c:Int)(w:World)(h1:48≤c)(h2:c≤57) :
 Calls Tryz.prog 240 #[.int .u8 c] w fun e w'=>e=.returned (.bool true)∧w=w':=by
 go_enter Tryz.func240,Tryz.ntmps240
 go_wp2
 go_ret
 exact ⟨rfl,rfl⟩
theorem WM (c:Int)(w:World)(h:¬vW c) :
 Calls Tryz.prog 240 #[.int .u8 c] w fun e w'=>e=.returned (.bool false)∧w=w':=by
 unfold vW at h
 by_cases h1:48≤c
 ·have h2:decide (c≤57)=false:=by simp;omega
  go_enter Tryz.func240,Tryz.ntmps240
  go_wp2
  go_ret
  exact ⟨rfl,rfl⟩
 ·go_enter Tryz.func240,Tryz.ntmps240
  go_wp2
  go_ret
  exact ⟨rfl,rfl⟩
theorem kr {P:Prop}{w:World}(b:Bool)(h:b=true↔P):Res P w (.returned (.bool b)) w:=⟨b,rfl,h,rfl⟩
theorem all_succ {s:ByteArray}{k:Nat}(hall:∀ j,(h:j<s.size)→j<k→Good j (s[j].toNat:Int))(hk:k<s.size)(hg:Good k (s[k].toNat:Int)) :
 ∀ j,(h:j<s.size)→j<k+1→Good j (s[j].toNat:Int):=by
 intro j hj hlt
 by_cases e:j=k
 ·subst e;exact hg
 ·exact hall j hj (by omega)
theorem Hq {s:ByteArray}{k:Nat}(hk:k<s.size)(hg:¬Good k (s[k].toNat:Int)):¬nM s:=fun h=>hg (h.2.2 k hk)
theorem GZ {s:ByteArray}{k:Nat}(h1:1≤s.size)(h2:s.size≤20)(hall:∀ j,(h:j<s.size)→j<k→Good j (s[j].toNat:Int))(hk:¬k<s.size):nM s:=
 ⟨h1,h2,fun j hj=>hall j hj (by omega)⟩
theorem Ag {a b:Int}(h:¬a≤b):decide (a≤b)=false:=by simpa using h
theorem le_t {a b:Int}(h:a≤b):decide (a≤b)=true:=by simpa using h
theorem ne_f {a b:Int}(h:a=b):(a != b)=false:=by simp [h]
theorem ne_t {a b:Int}(h:¬a=b):(a != b)=true:=by simp [h]
theorem eq_f {k:Nat}(h:k≠0):((k:Int)==0)=false:=by simp;omega
theorem G8 (s:ByteArray)(w:World)(hs:s.size≤maxLen) :
 Calls Tryz.prog 163 #[.string s] w (Res (nM s) w):=by
 unfold maxLen at hs
 by_cases h1:1≤s.size
 ·by_cases h2:s.size≤20
  ·go_enter Tryz.func163,Tryz.ntmps163
   go_wp2
   go_loop [3] (fun i=>∃ k:Nat,k≤s.size∧i=.int .i64 k∧∀ j,(h:j<s.size)→j<k→Good j (s[j].toNat:Int)) (fun i=>s.size-(intOf i).toNat)
   case atStart=>exact ⟨0,Nat.zero_le _,rfl,fun j _ h=>absurd h (Nat.not_lt_zero _)⟩
   case round=>
    obtain ⟨k,hk,rfl,hall⟩:=hrel
    by_cases hlt:k<s.size
    ·by_cases hg:Good k (s[k].toNat:Int)
     ·have Hall:=Lib.hid (all_succ hall hlt hg)
      clear hall
      have fin:∀ c:Int,Good k c→(97≤c∧decide (c≤122)=true)∨(¬97≤c∧((k:Int)==0)=false∧48≤c∧decide (c≤57)=true)∨(¬97≤c∧((k:Int)==0)=false∧48≤c∧decide (c≤57)=false∧(c != 95)=false):=by
       intro c hc
       rcases hc with ⟨a,b⟩ | ⟨a,⟨b,d⟩ | b⟩
       ·exact .inl ⟨a,le_t b⟩
       ·exact .inr (.inl ⟨by omega,eq_f a,b,le_t d⟩)
       ·exact .inr (.inr ⟨by omega,eq_f a,by omega,Ag (by omega),ne_f b⟩)
      have fin2:=fin _ hg
      clear fin hg
      rcases fin2 with ⟨a,b⟩ | ⟨a,b,d,e⟩ | ⟨a,b,d,e,g⟩
      all_goals
       go_wp2
       go_round
       case rel=>exact ⟨k+1,by omega,by go_num,Hall.out⟩
       case measure=>simp [intOf];omega
     ·have Hn:=Lib.hid (Hq hlt hg)
      clear hall
      by_cases hk0:k=0
      ·subst hk0
       by_cases h97:97≤(s[0].toNat:Int)
       ·have b1:=Ag (a:=(s[0].toNat:Int)) (b:=122) (fun h=>hg (.inl ⟨h97,h⟩))
        clear hg
        go_wp2
        go_ret
        exact kr false (by simpa using Hn.out)
       ·clear hg
        go_wp2
        go_ret
        exact kr false (by simpa using Hn.out)
      ·have b0:=eq_f hk0
       have b2:=ne_t (a:=(s[k].toNat:Int)) (b:=95) (fun h=>hg (.inr ⟨hk0,.inr h⟩))
       by_cases h97:97≤(s[k].toNat:Int)
       ·have b1:=Ag (a:=(s[k].toNat:Int)) (b:=122) (fun h=>hg (.inl ⟨h97,h⟩))
        have b3:=Ag (a:=(s[k].toNat:Int)) (b:=57) (by omega)
        have b4:48≤(s[k].toNat:Int):=by omega
        clear hg hk0
        go_wp2
        go_ret
        exact kr false (by simpa using Hn.out)
       ·by_cases h48:48≤(s[k].toNat:Int)
        ·have b3:=Ag (a:=(s[k].toNat:Int)) (b:=57) (fun h=>hg (.inr ⟨hk0,.inl ⟨h48,h⟩⟩))
         clear hg hk0
         go_wp2
         go_ret
         exact kr false (by simpa using Hn.out)
        ·clear hg hk0
         go_wp2
         go_ret
         exact kr false (by simpa using Hn.out)
    ·have Hy:=Lib.hid (GZ h1 h2 hall hlt)
     clear hall
     go_wp2
     go_ret
     exact kr true (by simpa using Hy.out)
  ·have hn:¬nM s:=fun h=>h2 h.2.1
   have Hn:=Lib.hid hn
   clear hn
   go_enter Tryz.func163,Tryz.ntmps163
   go_wp2
   go_ret
   exact kr false (by simpa using Hn.out)
 ·have hn:¬nM s:=fun h=>h1 h.1
  have Hn:=Lib.hid hn
  clear hn
  go_enter Tryz.func163,Tryz.ntmps163
  go_wp2
  go_ret
  exact kr false (by simpa using Hn.out)
def Gm (c:Int):Bool:=decide (97≤c)&&decide (c≤122)
def Km (c:Int):Bool:=decide (48≤c)&&decide (c≤57)
theorem KD {c:Int}(h:uh c):Gm c=true:=by unfold uh at h;simp [Gm];omega
theorem Ba {c:Int}(h:¬uh c):Gm c=false:=by unfold uh at h;simp [Gm];omega
theorem Vj {c:Int}(h:vW c):Km c=true:=by unfold vW at h;simp [Km];omega
theorem KF {c:Int}(h:¬vW c):Km c=false:=by unfold vW at h;simp [Km];omega
theorem qg (c:Int)(w:World):Calls Tryz.prog 239 #[.int .u8 c] w fun e w'=>e=.returned (.bool (Gm c))∧w=w':=by
 by_cases h:uh c
 ·rw [KD h];exact LJ c w h.1 h.2
 ·rw [Ba h];exact Rq c w h
theorem yC (c:Int)(w:World):Calls Tryz.prog 240 #[.int .u8 c] w fun e w'=>e=.returned (.bool (Km c))∧w=w':=by
 by_cases h:vW c
 ·rw [Vj h];exact RB c w h.1 h.2
 ·rw [KF h];exact WM c w h
theorem Im (s:ByteArray)(w:World)(hs:s.size≤maxLen) :
 Calls Tryz.prog 197 #[.string s] w (Res (nM s) w):=by
 unfold maxLen at hs
 by_cases h1:1≤s.size
 ·by_cases h2:s.size≤20
  ·by_cases hl:uh (s[0].toNat:Int)
   ·have HL:=Lib.hid hl
    have bl:=KD hl
    clear hl
    go_enter Tryz.func197,Tryz.ntmps197
    go_wp2_with (first | (go_at_call 239;refine (qg _ _).mono ?_;rintro e w' ⟨rfl,rfl⟩) | (go_at_call 240;refine (yC _ _).mono ?_;rintro e w' ⟨rfl,rfl⟩))
    go_loop [20] (fun i=>∃ k:Nat,k≤s.size∧i=.int .i64 k∧∀ j,(h:j<s.size)→j<k→Good j (s[j].toNat:Int)) (fun i=>s.size-(intOf i).toNat)
    case atStart=>exact ⟨0,Nat.zero_le _,rfl,fun j _ h=>absurd h (Nat.not_lt_zero _)⟩
    case round=>
     obtain ⟨k,hk,rfl,hall⟩:=hrel
     by_cases hlt:k<s.size
     ·by_cases hg:Good k (s[k].toNat:Int)
      ·have Hall:=Lib.hid (all_succ hall hlt hg)
       clear hall
       have fin:∀ c:Int,Good k c→Gm c=true∨(Gm c=false∧Km c=true)∨(Gm c=false∧Km c=false∧(c != 95)=false):=by
        intro c hc
        by_cases a:uh c
        ·exact .inl (KD a)
        ·by_cases b:vW c
         ·exact .inr (.inl ⟨Ba a,Vj b⟩)
         ·rcases hc with d | ⟨_,d | d⟩
          ·exact absurd d a
          ·exact absurd d b
          ·exact .inr (.inr ⟨Ba a,KF b,ne_f d⟩)
       have fin2:=fin _ hg
       clear fin hg bl
       rcases fin2 with a | ⟨a,b⟩ | ⟨a,b,d⟩
       all_goals
        go_wp2_with (first | (go_at_call 239;refine (qg _ _).mono ?_;rintro e w' ⟨rfl,rfl⟩) | (go_at_call 240;refine (yC _ _).mono ?_;rintro e w' ⟨rfl,rfl⟩))
        go_round
        case rel=>exact ⟨k+1,by omega,by go_num,Hall.out⟩
        case measure=>simp [intOf];omega
      ·have Hn:=Lib.hid (Hq hlt hg)
       clear hall
       by_cases hk0:k=0
       ·subst hk0
        exact absurd (.inl HL.out) hg
       ·have b1:=Ba (fun h=>hg (.inl h))
        have b2:=KF (fun h=>hg (.inr ⟨hk0,.inl h⟩))
        have b3:=ne_t (a:=(s[k].toNat:Int)) (b:=95) (fun h=>hg (.inr ⟨hk0,.inr h⟩))
        clear hg hk0 bl
        go_wp2_with (first | (go_at_call 239;refine (qg _ _).mono ?_;rintro e w' ⟨rfl,rfl⟩) | (go_at_call 240;refine (yC _ _).mono ?_;rintro e w' ⟨rfl,rfl⟩))
        go_ret
        exact kr false (by simpa using Hn.out)
     ·have Hy:=Lib.hid (GZ h1 h2 hall hlt)
      clear hall
      go_wp2
      go_ret
      exact kr true (by simpa using Hy.out)
   ·have hn:¬nM s:=fun h=>by
     rcases h.2.2 0 (by omega) with a | ⟨a,_⟩
     ·exact hl a
     ·exact a rfl
    have Hn:=Lib.hid hn
    have bl:=Ba hl
    clear hn hl
    go_enter Tryz.func197,Tryz.ntmps197
    go_wp2_with (go_at_call 239;refine (qg _ _).mono ?_;rintro e w' ⟨rfl,rfl⟩)
    go_ret
    exact kr false (by simpa using Hn.out)
  ·have hn:¬nM s:=fun h=>h2 h.2.1
   have Hn:=Lib.hid hn
   clear hn
   go_enter Tryz.func197,Tryz.ntmps197
   go_wp2
   go_ret
   exact kr false (by simpa using Hn.out)
 ·have hn:¬nM s:=fun h=>h1 h.1
  have Hn:=Lib.hid hn
  clear hn
  go_enter Tryz.func197,Tryz.ntmps197
  go_wp2
  go_ret
  exact kr false (by simpa using Hn.out)
end
end eO
namespace aQ
section
open Go.RowKit bN bO bJ bQ eO
def Cv (a b:ByteArray):Bool:=Op.bytesLess a.toList b.toList
theorem EO (a b:ByteArray):Cv a b=true↔a.toList<b.toList:=by unfold Cv;rw [bytesLess_eq];simp
theorem Vp {a b:ByteArray}(h:a.toList=b.toList):a=b:=by
 rw [Lib.toList_data,Lib.toList_data] at h
 cases a;cases b
 simp only [ByteArray.mk.injEq]
 exact Array.toList_inj.1 h
theorem uY (a:ByteArray):Cv a a=false:=by
 rw [Bool.eq_false_iff,ne_eq,EO]
 exact List.lt_irrefl _
theorem QM {a b c:ByteArray}(h1:Cv a b=true)(h2:Cv b c=true):Cv a c=true:=by
 rw [EO] at *
 exact List.lt_trans h1 h2
theorem NR {a b:ByteArray}(h1:Cv a b=false)(h2:Cv b a=false):a=b:=by
 rw [Bool.eq_false_iff,ne_eq,EO] at *
 exact Vp (List.le_antisymm (List.not_lt.1 h2) (List.not_lt.1 h1))
theorem QN {a b:ByteArray}(h1:Cv a b=true):Cv b a=false:=by
 rw [Bool.eq_false_iff]
 intro h2
 have:=QM h1 h2
 rw [uY] at this
 cases this
def jY (a b:ay):Prop:=a.1<b.1∨(a.1=b.1∧a.2<b.2)
def CU (a b:ay):Prop:=a=b∨jY a b
theorem qd {a b c:ay}(h1:jY a b)(h2:jY b c):jY a c:=by unfold jY at *;omega
theorem iH {a:ay}:¬jY a a:=by unfold jY;omega
theorem BQ {a b c:ay}(h1:CU a b)(h2:CU b c):CU a c:=by
 rcases h1 with rfl | h1
 ·exact h2
 ·rcases h2 with rfl | h2
  ·exact .inr h1
  ·exact .inr (qd h1 h2)
theorem Rs {a b:ay}(h1:CU a b)(h2:CU b a):a=b:=by
 rcases h1 with h | h1
 ·exact h
 ·rcases h2 with h | h2
  ·exact h.symm
  ·exact absurd (qd h1 h2) iH
def ltU (x y:bI):Prop:=jY x.1 y.1∨(x.1=y.1∧Cv x.2.1 y.2.1=true)
theorem OQ {x y:bI}(h:ltU x y):CU x.1 y.1:=by
 rcases h with h | ⟨h,_⟩
 ·exact .inr h
 ·exact .inl h
def okU (x:bI):Prop:=dH.rB x.1.1 x.1.2=true∧nM x.2.1∧dD x.2.2 1 100000=true
def YM (L:List bI)(i:Nat)(x:bI):Prop:=okU x∧(∀ y,0<i→L[i-1]? = some y→ltU y x)∧∀ y,6≤i→L[i-6]? = some y→y.1≠x.1
def Gc (L:List bI)(k:Nat):Prop:=∀ i x,i<k→L[i]? = some x→YM L i x
def yL (L:List bI):Prop:=L.length≤48∧∀ i x,L[i]? = some x→YM L i x
open Classical in
noncomputable def Dq (L:List bI):Bool:=decide (yL L)
open Classical in
theorem lK {L:List bI}:Dq L=true↔yL L:=by unfold Dq;simp
theorem DJ {L:List bI}:Gc L 0:=fun i x h=>absurd h (gZ _)
theorem lM {L:List bI}{k:Nat}{x:bI}(h:Gc L k)(hx:L[k]? = some x)(hk:YM L k x):Gc L (k+1):=fun i y hi hy=>by
 rcases Nat.lt_succ_iff_lt_or_eq.1 hi with h1 | h1
 ·exact h i y h1 hy
 ·subst h1;rw [hx] at hy;cases hy;exact hk
theorem DI {L:List bI}(h1:L.length≤48)(h:Gc L L.length):yL L:=⟨h1,fun i x hx=>h i x (List.getElem?_eq_some_iff.1 hx).1 hx⟩
theorem rT {P:Prop}{b:Bool}{w w':World}{e:Ending}(hb:b=true↔P)(h:jf P w e w'):sS b w e w':=by
 obtain ⟨c,rfl,hc,hB⟩:=h
 obtain rfl:c=b:=by
  cases c <;> cases b <;> first | rfl | exact absurd (hc.2 (hb.1 rfl)) (by decide) | exact absurd (hb.2 (hc.1 rfl)) (by decide)
 exact ⟨rfl,hB⟩
def Pw (L:List bI)(k c:Nat):Prop:=(k=0∧c=0)∨(1≤c∧c≤k∧(∀ j x y,k-c≤j→j<k→L[j]? = some x→L[k-1]? = some y→x.1=y.1)∧∀ x y,c<k→L[k-c-1]? = some x→L[k-1]? = some y→x.1≠y.1)
theorem QT {L:List bI}:Pw L 0 0:=.inl ⟨rfl,rfl⟩
theorem Nf {L:List bI}{k:Nat}(h:k<L.length):∃ x,L[k]? = some x:=⟨L[k],List.getElem?_eq_getElem h⟩
theorem QU {L:List bI}{k c:Nat}{x y:bI}(h:Pw L k c)(h0:0<k)(hy:L[k-1]? = some y)(hx:L[k]? = some x)(he:y.1=x.1):Pw L (k+1) (c+1):=by
 rcases h with ⟨h,_⟩ | ⟨h1,h2,h3,h4⟩
 ·omega
 ·refine .inr ⟨by omega,by omega,fun j u v hj hj2 hu hv=>?_,fun u v hc hu hv=>?_⟩
  ·rw [Nat.add_sub_cancel] at hv
   rw [hx] at hv
   cases hv
   by_cases e:j=k
   ·subst e;rw [hx] at hu;cases hu;rfl
   ·exact (h3 j u y (by omega) (by omega) hu hy).trans he
  ·rw [Nat.add_sub_cancel] at hv
   rw [hx] at hv
   cases hv
   rw [←he]
   exact h4 u y (by omega) (by rw [show k-c-1=k+1-(c+1)-1 by omega];exact hu) hy
theorem He {L:List bI}{k:Nat}{x:bI}(hx:L[k]? = some x)(h:∀ y,0<k→L[k-1]? = some y→y.1≠x.1):Pw L (k+1) 1:=by
 refine .inr ⟨bK _,by omega,fun j u v hj hj2 hu hv=>?_,fun u v hc hu hv=>?_⟩
 ·rw [Nat.add_sub_cancel] at hv
  obtain rfl:j=k:=by omega
  rw [hu] at hv
  cases hv
  rfl
 ·rw [Nat.add_sub_cancel] at hv
  rw [hx] at hv
  cases hv
  exact h u (by omega) hu
theorem DK {L:List bI}{k:Nat}(h:Gc L k)(hk:k≤L.length){i:Nat}{x:bI}(hx:L[i]? = some x):∀ {j:Nat}{y:bI},i≤j→j<k→L[j]? = some y→CU x.1 y.1:=by
 intro j
 induction j with
 | zero=>
  intro y hij _ hy
  obtain rfl:i=0:=by omega
  rw [hx] at hy;cases hy
  exact .inl rfl
 | succ j ih=>
  intro y hij hj hy
  by_cases e:i=j+1
  ·subst e;rw [hx] at hy;cases hy;exact .inl rfl
  ·obtain ⟨z,hz⟩:=Nf (L:=L) (k:=j) (by omega)
   exact BQ (ih (by omega) (by omega) hz) (OQ ((h (j+1) y hj hy).2.1 z (by omega) hz))
theorem EP {L:List bI}{k c:Nat}{x:bI}(hT:Gc L k)(hx:L[k]? = some x)(ho:okU x)(hl:∀ y,0<k→L[k-1]? = some y→ltU y x)(hr:Pw L (k+1) c):c≤6↔∀ y,6≤k→L[k-6]? = some y→y.1≠x.1:=by
 have hk:k<L.length:=(List.getElem?_eq_some_iff.1 hx).1
 rcases hr with ⟨h,_⟩ | ⟨h1,h2,h3,h4⟩
 ·omega
 rw [Nat.add_sub_cancel] at h3 h4
 constructor
 ·intro hc y h6 hy he
  obtain ⟨z,hz⟩:=Nf (L:=L) (k:=k+1-c-1) (by omega)
  have hlast:∀ {j:Nat} {u:bI},j<k→L[j]? = some u→CU u.1 x.1:=fun {j u} hj hu=>by
   obtain ⟨v,hv⟩:=Nf (L:=L) (k:=k-1) (by omega)
   exact BQ (DK hT (by omega) hu (by omega) (by omega) hv) (OQ (hl v (by omega) hv))
  have e1:CU y.1 z.1:=DK hT (by omega) hy (by omega) (by omega) hz
  have e2:CU z.1 x.1:=hlast (by omega) hz
  rw [he] at e1
  exact h4 z x (by omega) hz hx (Rs e2 e1)
 ·intro h
  by_cases hc:c≤6
  ·exact hc
  ·exfalso
   obtain ⟨z,hz⟩:=Nf (L:=L) (k:=k-6) (by omega)
   exact h z (by omega) hz (h3 (k-6) z x (by omega) (by omega) hz hx)
theorem WG {w w':World}{B:Nat}{o:Option Nat}(h:w.grownBy w' o)(hv:∀ k,o=some k→B≤k)(hB:B≤w.heap.size):Below B w w':=
 ⟨h.os,h.tape,h.output,h.size,fun k hk=>h.block k (bV hk hB) (fun e=>by have:=hv k e.symm;omega)⟩
theorem Z7:(Tryz.prog.info? 128).map (fun i=>(i.zero,i.size,i.bytes))=some (some (.agg #[.int .i64 0,.int .i64 0,.string ⟨#[]⟩,.int .i64 0]),4,40):=by kernel_rfl
theorem Ih:∃ i,Tryz.prog.info? 128=some i∧i.zero=some (.agg #[.int .i64 0,.int .i64 0,.string ⟨#[]⟩,.int .i64 0])∧i.size=4∧i.bytes=40:=by
 have h:=Z7
 cases hx:Tryz.prog.info? 128 with
 | none=>rw [hx] at h;simp at h
 | some i=>rw [hx] at h;simp at h;exact ⟨i,rfl,h.1,h.2.1,h.2.2⟩
def lq (w:World)(lo:Nat)(v:Value)(L:List bI):Prop:=∃ xs hi,lo≤hi∧App bC w lo hi 128 v L xs (fun _ _=>False)
section
variable {w w':World}{lo:Nat}{v:Value}{L:List bI}
theorem lq.none_ (w:World):lq w w.heap.size (.slice none 0 0) []:=⟨[],w.heap.size,bK _,App.none_ _ _ _ (bK _)⟩
theorem lq.made (w:World):lq (w.alloc (.cells #[] 128)) w.heap.size (.slice (some ⟨w.heap.size,0,none⟩) 0 0) []:=⟨[],_,Nat.le_succ _,App.made _ _ _⟩
theorem lq.call (h:lq w lo v L)(hb:Below w.heap.size w w'):lq w' lo v L:=by
 obtain ⟨xs,hi,h0,h1⟩:=h
 exact ⟨xs,hi,h0,h1.call aU hb⟩
theorem lq.blk (h:lq w lo v L){k:Nat}(hk:v.ownBlock=some k):lo≤k∧k<w.heap.size:=by
 obtain ⟨xs,hi,h0,h1⟩:=h
 exact ⟨(h1.blk k hk).1,bV (h1.blk k hk).2 h1.le⟩
theorem lq.isSlice (h:lq w lo v L):∃ a cap,v=.slice a L.length cap:=by
 obtain ⟨xs,hi,h0,h1⟩:=h
 exact h1.isSlice
theorem lq.news (h:lq w' lo v L){w:World}(hlo:w.heap.size≤lo)(hb:Below w.heap.size w w'):jU bC L w (.returned v) w':=by
 obtain ⟨xs,hi,h0,h1⟩:=h
 obtain ⟨a,c,rfl,ho⟩:=h1.done
 exact ⟨a,c,rfl,ho.more fun k hk=>⟨eF hlo hk.1,bV hk.2 h1.le⟩,hb⟩
end
end
end aQ
namespace KH
section
open Go.RowKit
theorem zU:(Tryz.prog.info? 5).map (fun i=>(i.zero,i.size,i.bytes))=some (some (.int .u8 0),1,1):=by kernel_rfl
theorem zS {a b:ByteArray}(h:a=b):Ending.returned (.string a)=.returned (.string b):=by rw [h]
def bytesOf (l:List UInt8):ByteArray:=⟨l.toArray⟩
theorem yx:(Tryz.prog.info? 5).map (·.size)=some 1:=by kernel_rfl
theorem vv (w:World)(n:Int)(h0:0≤n)(h1:n≤140737488355328) :
 ∃ w1,(Instr.makeSlice 201 (.int .i64 n) (.int .i64 n)).run Tryz.prog w=.ok (.slice (some ⟨w.heap.size,0,none⟩) n.toNat n.toNat) w1 ∧
  (∃ cur:Array Value,cur.size=n.toNat∧w1.heap[w.heap.size]? = some (.cells cur 5 (0,0)))∧Below w.heap.size w w1∧w.heap.size<w1.heap.size:=by
 obtain ⟨i,hi,hz0,hz1,hz2⟩:=info_parts zU
 refine ⟨_,run_make w 201 5 i _ Tryz.underlying201 hi hz0 .i64 .i64 n n h0 (Int.le_refl _) (by rw [hz2];omega) (by omega),?_,(Below.refl _ _).alloc (Nat.le_refl _) _,?_⟩
 ·refine ⟨_,?_,heap_alloc_new _ _⟩
  rw [size_madeCells,hz1]
  omega
 ·show _<(w.heap.push _).size
  simp
theorem Br (w:World)(g o dLen dCap:Nat)(s:ByteArray)(cur:Array Value)(ty:TypeId)(hg:w.heap[g]? = some (.cells cur 5 (0,0)))(hle:s.size≤dLen)(hfit:o+s.size≤cur.size) :
 ∃ w1,(Builtin.copy_ #[201,9] ty #[.slice (some ⟨g,o,none⟩) dLen dCap,.string s]).run Tryz.prog w=.ok (goInt s.size) w1 ∧
  w1.heap[g]? = some (.cells (cur.toList.take o++Lib.byteCells s.data.toList++cur.toList.drop (o+s.size)).toArray 5 (0,0))∧Below g w w1:=
 ⟨_,Lib.run_copy_row_string w 201 9 ty 5 g o dLen dCap s cur 5 Tryz.underlying201 yx hg hle hfit,setRow_heap w g cur _ _ _ hg,below_setRow (Below.refl _ _) (Nat.le_refl _) _⟩
theorem uU {w:World}{g:Nat}{l:List UInt8}(h:w.heap[g]? = some (.cells (Lib.byteCells l).toArray 5 (0,0)))(h0:l.length≠0)(hl:l.length≤9223372036854775807) :
 (Builtin.unsafeString_ #[285,3] 9 #[.pointer (some ⟨g,0,none⟩),.int .i64 l.length]).run Tryz.prog w=.ok (.string (bytesOf l)) (w.freeze ⟨g,0,none⟩ l.length):=
 Lib.run_unsafeString_row w 285 3 9 5 Tryz.underlying285 (by kernel_rfl) g l.length (by simp [World.shape?,h,Lib.byteCells]) l (fun e=>h0 (by rw [e];rfl)) (Nat.le_refl _) hl (fun j x hj=>by
  have hlt:=(List.getElem?_eq_some_iff.1 hj).1
  have e:(⟨g,0,none⟩:Addr).add j=⟨g,j,none⟩:=by cases j <;> simp [Addr.add]
  rw [e]
  rw [List.getElem?_eq_getElem hlt] at hj
  simp at hj
  subst hj
  simp [World.cell?,h,Lib.byteCells,hlt])
theorem vD (s:ByteArray)(w:World)(hs:s.size≤1048576) :
 Calls Tryz.prog 251 #[.string s] w fun e w'=>e=.returned (.string s)∧Below w.heap.size w w':=by
 by_cases h0:s.size=0
 ·have he:Hid (s=ByteArray.empty):=Lib.hid (ByteArray.ext (Array.eq_empty_of_size_eq_zero h0))
  have hb:((s.size:Int)==0)=true:=by simp [h0]
  go_enter Tryz.func251,Tryz.ntmps251
  go_wp2
  go_ret
  exact ⟨zS he.out.symm,Below.refl _ _⟩
 ·have hb:((s.size:Int)==0)=false:=by simp [h0]
  obtain ⟨w1,hmk,⟨cur,hcs,hg1⟩,hb1,hz1⟩:=vv w (s.size:Int) (by omega) (by omega)
  have hn:((s.size:Int)).toNat=s.size:=by omega
  rw [hn] at hmk hcs
  obtain ⟨w2,hc1,hg2,hb2⟩:=Br w1 w.heap.size 0 s.size s.size s cur 3 hg1 (by omega) (by omega)
  have hg3:w2.heap[w.heap.size]? = some (.cells (Lib.byteCells s.data.toList).toArray 5 (0,0)):=by
   rw [hg2]
   have e:cur.toList.drop (0+s.size) = []:=List.drop_of_length_le (by simp [hcs])
   rw [e]
   simp
  have hun:=uU hg3 (by rw [←Lib.size_eq];exact h0) (by rw [←Lib.size_eq];omega)
  rw [←Lib.size_eq,show bytesOf s.data.toList=s from ByteArray.ext (by simp [bytesOf])] at hun
  have HB:Hid (Below w.heap.size w (w2.freeze ⟨w.heap.size,0,none⟩ s.size)):=Lib.hid (Lib.below_freeze (hb1.trans hb2) (Nat.le_refl _) _)
  have hp:0<s.size:=by omega
  clear hg1 hg2 hg3 hb1 hb2 hcs hz1 hn h0
  go_enter Tryz.func251,Tryz.ntmps251
  go_wp2
  go_ret
  exact ⟨rfl,HB.out⟩
theorem yD (s:ByteArray)(w:World)(hs:s.size≤1048576) :
 Calls Tryz.prog 213 #[.string s] w fun e w'=>e=.returned (.string s)∧Below w.heap.size w w':=by
 go_enter Tryz.func213,Tryz.ntmps213
 go_wp2_with fail
 refine (vD _ _ hs).mono ?_
 rintro e w1 ⟨rfl,hb1⟩
 have HB1:=Lib.hid hb1
 clear hb1
 go_wp2
 go_ret
 exact ⟨rfl,HB1.out⟩
end
end KH
end Go.Proofs.YtlhfiapfncikdaaGreatDoor
