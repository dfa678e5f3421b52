/- The two functions NameRight, each by a contract: they answer whether a string is a name. -/
import Derived.Test.YtmmnkdilnlhbfaaRows
import Derived.WalkKit
import Derived.ProofKit
import Derived.Below
import Derived.LoopTactic
import Derived.BigQuiet
import Derived.Deep.QuietTactic
import Derived.WalkSpells
import Derived.WalkLawsBesides
import Derived.Lib.Hide
namespace Go.Proofs.Ytmmnkdilnlhbfaa.NameC
open Go.RowKit

def IsLet (c : Int) : Prop := 97 ≤ c ∧ c ≤ 122
def IsDig (c : Int) : Prop := 48 ≤ c ∧ c ≤ 57
def Good (k : Nat) (c : Int) : Prop := IsLet c ∨ (k ≠ 0 ∧ (IsDig c ∨ c = 95))
def NameP (s : ByteArray) : Prop := 1 ≤ s.size ∧ s.size ≤ 20 ∧ ∀ k, (h : k < s.size) → Good k (s[k].toNat : Int)
def Res (P : Prop) (w : World) (e : Ending) (w' : World) : Prop := ∃ b : Bool, e = .returned (.bool b) ∧ (b = true ↔ P) ∧ w = w'

theorem letter_yes (c : Int) (w : World) (h1 : 97 ≤ c) (h2 : c ≤ 122) :
    Calls Try.prog 122 #[.int .u8 c] w fun e w' => e = .returned (.bool true) ∧ w = w' := by
  go_enter Try.func122, Try.ntmps122
  go_wp2
  go_ret
  exact ⟨rfl, rfl⟩

theorem letter_no (c : Int) (w : World) (h : ¬ IsLet c) :
    Calls Try.prog 122 #[.int .u8 c] w fun e w' => e = .returned (.bool false) ∧ w = w' := by
  unfold IsLet at h
  by_cases h1 : 97 ≤ c
  · have h2 : decide (c ≤ 122) = false := by simp; omega
    go_enter Try.func122, Try.ntmps122
    go_wp2
    go_ret
    exact ⟨rfl, rfl⟩
  · go_enter Try.func122, Try.ntmps122
    go_wp2
    go_ret
    exact ⟨rfl, rfl⟩

theorem digit_yes (c : Int) (w : World) (h1 : 48 ≤ c) (h2 : c ≤ 57) :
    Calls Try.prog 123 #[.int .u8 c] w fun e w' => e = .returned (.bool true) ∧ w = w' := by
  go_enter Try.func123, Try.ntmps123
  go_wp2
  go_ret
  exact ⟨rfl, rfl⟩

theorem digit_no (c : Int) (w : World) (h : ¬ IsDig c) :
    Calls Try.prog 123 #[.int .u8 c] w fun e w' => e = .returned (.bool false) ∧ w = w' := by
  unfold IsDig at h
  by_cases h1 : 48 ≤ c
  · have h2 : decide (c ≤ 57) = false := by simp; omega
    go_enter Try.func123, Try.ntmps123
    go_wp2
    go_ret
    exact ⟨rfl, rfl⟩
  · go_enter Try.func123, Try.ntmps123
    go_wp2
    go_ret
    exact ⟨rfl, rfl⟩

theorem res_mk {P : Prop} {w : World} (b : Bool) (h : b = true ↔ P) : Res P w (.returned (.bool b)) w := ⟨b, rfl, h, rfl⟩

theorem all_succ {s : ByteArray} {k : Nat} (hall : ∀ j, (h : j < s.size) → j < k → Good j (s[j].toNat : Int)) (hk : k < s.size) (hg : Good k (s[k].toNat : Int)) :
    ∀ j, (h : j < s.size) → j < k + 1 → Good j (s[j].toNat : Int) := by
  intro j hj hlt
  by_cases e : j = k
  · subst e; exact hg
  · exact hall j hj (by omega)

theorem not_name {s : ByteArray} {k : Nat} (hk : k < s.size) (hg : ¬ Good k (s[k].toNat : Int)) : ¬ NameP s := fun h => hg (h.2.2 k hk)

theorem yes_name {s : ByteArray} {k : Nat} (h1 : 1 ≤ s.size) (h2 : s.size ≤ 20) (hall : ∀ j, (h : j < s.size) → j < k → Good j (s[j].toNat : Int)) (hk : ¬ k < s.size) : NameP s :=
  ⟨h1, h2, fun j hj => hall j hj (by omega)⟩

/-- the Bool facts of a byte -/
theorem le_f {a b : Int} (h : ¬ a ≤ b) : decide (a ≤ b) = false := by simpa using h
theorem le_t {a b : Int} (h : a ≤ b) : decide (a ≤ b) = true := by simpa using h
theorem ne_f {a b : Int} (h : a = b) : (a != b) = false := by simp [h]
theorem ne_t {a b : Int} (h : ¬ a = b) : (a != b) = true := by simp [h]
theorem eq_f {k : Nat} (h : k ≠ 0) : ((k : Int) == 0) = false := by simp; omega

set_option maxHeartbeats 1600000 in
theorem spec_any (s : ByteArray) (w : World) (hs : s.size ≤ maxLen) :
    Calls Try.prog 95 #[.string s] w (Res (NameP s) w) := by
  unfold maxLen at hs
  by_cases h1 : 1 ≤ s.size
  · by_cases h2 : s.size ≤ 20
    · go_enter Try.func95, Try.ntmps95
      go_wp2
      go_loop [3] (fun i => ∃ k : Nat, k ≤ s.size ∧ i = .int .i64 k ∧ ∀ j, (h : j < s.size) → j < k → Good j (s[j].toNat : Int)) (fun i => s.size - (intOf i).toNat)
      case atStart => exact ⟨0, Nat.zero_le _, rfl, fun j _ h => absurd h (Nat.not_lt_zero _)⟩
      case round =>
        obtain ⟨k, hk, rfl, hall⟩ := hrel
        by_cases hlt : k < s.size
        · by_cases hg : Good k (s[k].toNat : Int)
          · have Hall := Lib.hid (all_succ hall hlt hg)
            clear hall
            have fin : ∀ c : Int, Good k c → (97 ≤ c ∧ decide (c ≤ 122) = true) ∨ (¬ 97 ≤ c ∧ ((k : Int) == 0) = false ∧ 48 ≤ c ∧ decide (c ≤ 57) = true) ∨ (¬ 97 ≤ c ∧ ((k : Int) == 0) = false ∧ 48 ≤ c ∧ decide (c ≤ 57) = false ∧ (c != 95) = false) := by
              intro c hc
              rcases hc with ⟨a, b⟩ | ⟨a, ⟨b, d⟩ | b⟩
              · exact .inl ⟨a, le_t b⟩
              · exact .inr (.inl ⟨by omega, eq_f a, b, le_t d⟩)
              · exact .inr (.inr ⟨by omega, eq_f a, by omega, le_f (by omega), ne_f b⟩)
            have fin2 := fin _ hg
            clear fin hg
            rcases fin2 with ⟨a, b⟩ | ⟨a, b, d, e⟩ | ⟨a, b, d, e, g⟩
            all_goals
              go_wp2
              go_round
              case rel => exact ⟨k + 1, by omega, by go_num, Hall.out⟩
              case measure => simp [intOf]; omega
          · have Hn := Lib.hid (not_name hlt hg)
            clear hall
            by_cases hk0 : k = 0
            · subst hk0
              by_cases h97 : 97 ≤ (s[0].toNat : Int)
              · have b1 := le_f (a := (s[0].toNat : Int)) (b := 122) (fun h => hg (.inl ⟨h97, h⟩))
                clear hg
                go_wp2
                go_ret
                exact res_mk false (by simpa using Hn.out)
              · clear hg
                go_wp2
                go_ret
                exact res_mk false (by simpa using Hn.out)
            · have b0 := eq_f hk0
              have b2 := ne_t (a := (s[k].toNat : Int)) (b := 95) (fun h => hg (.inr ⟨hk0, .inr h⟩))
              by_cases h97 : 97 ≤ (s[k].toNat : Int)
              · have b1 := le_f (a := (s[k].toNat : Int)) (b := 122) (fun h => hg (.inl ⟨h97, h⟩))
                have b3 := le_f (a := (s[k].toNat : Int)) (b := 57) (by omega)
                have b4 : 48 ≤ (s[k].toNat : Int) := by omega
                clear hg hk0
                go_wp2
                go_ret
                exact res_mk false (by simpa using Hn.out)
              · by_cases h48 : 48 ≤ (s[k].toNat : Int)
                · have b3 := le_f (a := (s[k].toNat : Int)) (b := 57) (fun h => hg (.inr ⟨hk0, .inl ⟨h48, h⟩⟩))
                  clear hg hk0
                  go_wp2
                  go_ret
                  exact res_mk false (by simpa using Hn.out)
                · clear hg hk0
                  go_wp2
                  go_ret
                  exact res_mk false (by simpa using Hn.out)
        · have Hy := Lib.hid (yes_name h1 h2 hall hlt)
          clear hall
          go_wp2
          go_ret
          exact res_mk true (by simpa using Hy.out)
    · have hn : ¬ NameP s := fun h => h2 h.2.1
      have Hn := Lib.hid hn
      clear hn
      go_enter Try.func95, Try.ntmps95
      go_wp2
      go_ret
      exact res_mk false (by simpa using Hn.out)
  · have hn : ¬ NameP s := fun h => h1 h.1
    have Hn := Lib.hid hn
    clear hn
    go_enter Try.func95, Try.ntmps95
    go_wp2
    go_ret
    exact res_mk false (by simpa using Hn.out)

def letB (c : Int) : Bool := decide (97 ≤ c) && decide (c ≤ 122)
def digB (c : Int) : Bool := decide (48 ≤ c) && decide (c ≤ 57)
theorem letB_t {c : Int} (h : IsLet c) : letB c = true := by unfold IsLet at h; simp [letB]; omega
theorem letB_f {c : Int} (h : ¬ IsLet c) : letB c = false := by unfold IsLet at h; simp [letB]; omega
theorem digB_t {c : Int} (h : IsDig c) : digB c = true := by unfold IsDig at h; simp [digB]; omega
theorem digB_f {c : Int} (h : ¬ IsDig c) : digB c = false := by unfold IsDig at h; simp [digB]; omega

theorem letter_any (c : Int) (w : World) : Calls Try.prog 122 #[.int .u8 c] w fun e w' => e = .returned (.bool (letB c)) ∧ w = w' := by
  by_cases h : IsLet c
  · rw [letB_t h]; exact letter_yes c w h.1 h.2
  · rw [letB_f h]; exact letter_no c w h
theorem digit_any (c : Int) (w : World) : Calls Try.prog 123 #[.int .u8 c] w fun e w' => e = .returned (.bool (digB c)) ∧ w = w' := by
  by_cases h : IsDig c
  · rw [digB_t h]; exact digit_yes c w h.1 h.2
  · rw [digB_f h]; exact digit_no c w h

set_option maxHeartbeats 1600000 in
theorem impl_any (s : ByteArray) (w : World) (hs : s.size ≤ maxLen) :
    Calls Try.prog 102 #[.string s] w (Res (NameP s) w) := by
  unfold maxLen at hs
  by_cases h1 : 1 ≤ s.size
  · by_cases h2 : s.size ≤ 20
    · by_cases hl : IsLet (s[0].toNat : Int)
      · have HL := Lib.hid hl
        have bl := letB_t hl
        clear hl
        go_enter Try.func102, Try.ntmps102
        go_wp2_with (first | (go_at_call 122; refine (letter_any _ _).mono ?_; rintro e w' ⟨rfl, rfl⟩) | (go_at_call 123; refine (digit_any _ _).mono ?_; rintro e w' ⟨rfl, rfl⟩))
        go_loop [20] (fun i => ∃ k : Nat, k ≤ s.size ∧ i = .int .i64 k ∧ ∀ j, (h : j < s.size) → j < k → Good j (s[j].toNat : Int)) (fun i => s.size - (intOf i).toNat)
        case atStart => exact ⟨0, Nat.zero_le _, rfl, fun j _ h => absurd h (Nat.not_lt_zero _)⟩
        case round =>
          obtain ⟨k, hk, rfl, hall⟩ := hrel
          by_cases hlt : k < s.size
          · by_cases hg : Good k (s[k].toNat : Int)
            · have Hall := Lib.hid (all_succ hall hlt hg)
              clear hall
              have fin : ∀ c : Int, Good k c → letB c = true ∨ (letB c = false ∧ digB c = true) ∨ (letB c = false ∧ digB c = false ∧ (c != 95) = false) := by
                intro c hc
                by_cases a : IsLet c
                · exact .inl (letB_t a)
                · by_cases b : IsDig c
                  · exact .inr (.inl ⟨letB_f a, digB_t b⟩)
                  · rcases hc with d | ⟨_, d | d⟩
                    · exact absurd d a
                    · exact absurd d b
                    · exact .inr (.inr ⟨letB_f a, digB_f b, ne_f d⟩)
              have fin2 := fin _ hg
              clear fin hg bl
              rcases fin2 with a | ⟨a, b⟩ | ⟨a, b, d⟩
              all_goals
                go_wp2_with (first | (go_at_call 122; refine (letter_any _ _).mono ?_; rintro e w' ⟨rfl, rfl⟩) | (go_at_call 123; refine (digit_any _ _).mono ?_; rintro e w' ⟨rfl, rfl⟩))
                go_round
                case rel => exact ⟨k + 1, by omega, by go_num, Hall.out⟩
                case measure => simp [intOf]; omega
            · have Hn := Lib.hid (not_name hlt hg)
              clear hall
              by_cases hk0 : k = 0
              · subst hk0
                exact absurd (.inl HL.out) hg
              · have b1 := letB_f (fun h => hg (.inl h))
                have b2 := digB_f (fun h => hg (.inr ⟨hk0, .inl h⟩))
                have b3 := ne_t (a := (s[k].toNat : Int)) (b := 95) (fun h => hg (.inr ⟨hk0, .inr h⟩))
                clear hg hk0 bl
                go_wp2_with (first | (go_at_call 122; refine (letter_any _ _).mono ?_; rintro e w' ⟨rfl, rfl⟩) | (go_at_call 123; refine (digit_any _ _).mono ?_; rintro e w' ⟨rfl, rfl⟩))
                go_ret
                exact res_mk false (by simpa using Hn.out)
          · have Hy := Lib.hid (yes_name h1 h2 hall hlt)
            clear hall
            go_wp2
            go_ret
            exact res_mk true (by simpa using Hy.out)
      · have hn : ¬ NameP s := fun h => by
          rcases h.2.2 0 (by omega) with a | ⟨a, _⟩
          · exact hl a
          · exact a rfl
        have Hn := Lib.hid hn
        have bl := letB_f hl
        clear hn hl
        go_enter Try.func102, Try.ntmps102
        go_wp2_with (go_at_call 122; refine (letter_any _ _).mono ?_; rintro e w' ⟨rfl, rfl⟩)
        go_ret
        exact res_mk false (by simpa using Hn.out)
    · have hn : ¬ NameP s := fun h => h2 h.2.1
      have Hn := Lib.hid hn
      clear hn
      go_enter Try.func102, Try.ntmps102
      go_wp2
      go_ret
      exact res_mk false (by simpa using Hn.out)
  · have hn : ¬ NameP s := fun h => h1 h.1
    have Hn := Lib.hid hn
    clear hn
    go_enter Try.func102, Try.ntmps102
    go_wp2
    go_ret
    exact res_mk false (by simpa using Hn.out)

theorem res_elim {P : Prop} {w : World} {e : Ending} {w' : World} (h : Res P w e w') : ∃ b : Bool, e = .returned (.bool b) ∧ (b = true ↔ P) ∧ w = w' := h

end Go.Proofs.Ytmmnkdilnlhbfaa.NameC
