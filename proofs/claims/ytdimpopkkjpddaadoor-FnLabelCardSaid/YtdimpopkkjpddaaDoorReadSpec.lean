/- LabelRead in the model: a contract. -/
import Derived.Test.YtdimpopkkjpddaaDoorTextLaw
namespace Go.Proofs.YtdimpopkkjpddaaDoor.LabC
open Go.RowKit KeptC

/-- a label of the text, if there is one -/
def IsText (t : ByteArray) (l s : Nat) : Prop := l ≤ 3 ∧ s ≤ 7 ∧ t.toList = (txt l s 3).toList
def ReadP (t : ByteArray) (l s c : Int) : Prop :=
  (¬ t.size ≤ 8000 ∧ l = 0 ∧ s = 0 ∧ c = 2) ∨ (t.size ≤ 8000 ∧ ∃ a b : Nat, IsText t a b ∧ l = a ∧ s = b ∧ c = 0) ∨ (t.size ≤ 8000 ∧ (∀ a b : Nat, ¬ IsText t a b) ∧ l = 0 ∧ s = 0 ∧ c = 3)
def ReadR (t : ByteArray) (w : World) (e : Ending) (w' : World) : Prop := ∃ l s c : Int, e = .returned (.agg #[.int .i64 l, .int .i64 s, .int .i64 c]) ∧ ReadP t l s c ∧ Below w.heap.size w w'
theorem readR_mk {t : ByteArray} {w w' : World} (l s c : Int) (h : ReadP t l s c) (hb : Below w.heap.size w w') : ReadR t w (.returned (.agg #[.int .i64 l, .int .i64 s, .int .i64 c])) w' := ⟨l, s, c, rfl, h, hb⟩
theorem text_nat (l s : Nat) (hl : l ≤ 3) (hs : s ≤ 7) : textV l s = txt l s 3 := text_yes ((rB_iff _ _).2 ⟨by omega, by omega, by omega, by omega⟩)

set_option maxRecDepth 100000 in
set_option maxHeartbeats 3200000 in
theorem read_spec (t : ByteArray) (w : World) (ht : t.size ≤ 1048576) :
    Calls Tryd.prog 37 #[.string t] w (ReadR t w) := by
  by_cases hz : t.size ≤ 8000
  · go_enter Tryd.func37, Tryd.ntmps37
    go_wp2
    go_loopw [3] (fun i wr => ∃ l : Nat, l ≤ 4 ∧ i = .int .i64 l ∧ (∀ a b, a < l → ¬ IsText t a b) ∧ KS w (w.heap.size + 1) [(w.heap.size, 0, .int .i64 0), (w.heap.size, 1, .int .i64 0), (w.heap.size, 2, .int .i64 0)] wr ∧ ∀ j, wr.frozen? ⟨w.heap.size, j, none⟩ = false) (fun i _ => 4 - (intOf i).toNat)
    case atStart => exact ⟨0, by omega, rfl, fun a b h => absurd h (Nat.not_lt_zero _), ⟨by simp, by simp, by simp, (Below.refl _ _).alloc (Nat.le_refl _) _, by simp⟩, fun j => by simp⟩
    case round =>
      obtain ⟨l, hl, rfl, hno, hK, hf⟩ := hrel
      have HNO := Lib.hid hno
      have HK := Lib.hid hK
      have HF := Lib.hid hf
      clear hno hK hf
      by_cases hlt : l ≤ 3
      · have hd : decide ((l : Int) ≤ 3) = true := decide_eq_true (by omega)
        go_wp2
        go_loopw [4] (fun i wr => ∃ s : Nat, s ≤ 8 ∧ i = .int .i64 s ∧ (∀ b, b < s → ¬ IsText t l b) ∧ KS w (w.heap.size + 1) [(w.heap.size, 0, .int .i64 0), (w.heap.size, 1, .int .i64 0), (w.heap.size, 2, .int .i64 0)] wr ∧ ∀ j, wr.frozen? ⟨w.heap.size, j, none⟩ = false) (fun i _ => 8 - (intOf i).toNat)
        case atStart => exact ⟨0, by omega, rfl, fun b h => absurd h (Nat.not_lt_zero _), HK.out, HF.out⟩
        case round =>
          obtain ⟨s, hs, rfl, hno, hK, hf⟩ := hrel
          have HNO2 := Lib.hid hno
          have HK2 := Lib.hid hK
          have HF2 := Lib.hid hf
          clear hno hK hf
          by_cases hslt : s ≤ 7
          · have hts := fun W => ts_w l s W
            have hV := text_nat l s hlt hslt
            go_wp2_with fail
            refine (hts _).mono ?_
            rw [hV]
            rintro e w1 ⟨rfl, hb⟩
            have ⟨c0, c1, _⟩ := cells2 hb (B := wr.heap.size) (a := .int .i64 l) (b := .int .i64 s) (by simp) (by simp)
            have HK3 := Lib.hid ((HK2.out.alloc _).call hb)
            have HF3 : Hid (∀ j, w1.frozen? ⟨w.heap.size, j, none⟩ = false) := Lib.hid (fun j => (hb.frozen (p := ⟨w.heap.size, j, none⟩) (by have := HK2.out.size; simp; omega)).trans (by have := HF2.out j; have h2 := HK2.out.size; rw [World.frozen?_alloc_old _ _ _ (by show w.heap.size ≠ _; omega)]; exact this))
            have r0 := HK3.out.at (b := w.heap.size) (o := 0) (v := .int .i64 0) (by simp)
            have r1 := HK3.out.at (b := w.heap.size) (o := 1) (v := .int .i64 0) (by simp)
            have r2 := HK3.out.at (b := w.heap.size) (o := 2) (v := .int .i64 0) (by simp)
            have s0 := HF3.out 0
            have s1 := HF3.out 1
            have s2 := HF3.out 2
            clear hb hts hV
            by_cases hT : t.toList = (txt l s 3).toList
            · have hq : ((txt l s 3).toList == t.toList) = true := by simp [hT]
              have HR := Lib.hid (show ReadP t l s 0 from .inr (.inl ⟨hz, l, s, ⟨hlt, hslt, hT⟩, rfl, rfl, rfl⟩))
              clear hT
              generalize txt l s 3 = T at *
              go_wp2
              refine bodyPost_ret (v := .agg #[.int .i64 l, .int .i64 s, .int .i64 0]) (by simp [results, Tryd.results37, go_sem, r0, r1, r2]) rfl (readR_mk _ _ _ HR.out ?_)
              exact ((HK3.out.below.setCell (Nat.le_refl _) _).setCell (Nat.le_refl _) _).setCell (Nat.le_refl _) _
            · have hq : ((txt l s 3).toList == t.toList) = false := by simp [Ne.symm hT]
              have HN3 := Lib.hid (show ∀ b, b < s + 1 → ¬ IsText t l b from fun b hb hi => by
                by_cases e : b = s
                · subst e; exact hT hi.2.2
                · exact HNO2.out b (by omega) hi)
              clear hT
              generalize txt l s 3 = T at *
              go_wp2
              go_roundw
              case rel => first | exact ⟨s + 1, by omega, by go_num, HN3.out, HK3.out, HF3.out⟩ | ((repeat apply Exists.intro); exact ⟨⟨s + 1, by omega, by go_num, HN3.out, HK3.out, HF3.out⟩, rfl⟩)
              case measure => simp [intOf]; omega
          · have HN3 := Lib.hid (show ∀ a b, a < l + 1 → ¬ IsText t a b from fun a b ha hi => by
              by_cases e : a = l
              · subst e; exact HNO2.out b (by have := hi.2.1; omega) hi
              · exact HNO.out a b (by omega) hi)
            go_wp2
            go_roundw
            case rel => first | exact ⟨l + 1, by omega, by go_num, HN3.out, HK2.out, HF2.out⟩ | ((repeat apply Exists.intro); exact ⟨⟨l + 1, by omega, by go_num, HN3.out, HK2.out, HF2.out⟩, rfl⟩)
            case measure => simp [intOf]; omega
      · have HR := Lib.hid (show ReadP t 0 0 3 from .inr (.inr ⟨hz, fun a b hi => HNO.out a b (by have := hi.1; omega) hi, rfl, rfl, rfl⟩))
        have r0 := HK.out.at (b := w.heap.size) (o := 0) (v := .int .i64 0) (by simp)
        have r1 := HK.out.at (b := w.heap.size) (o := 1) (v := .int .i64 0) (by simp)
        have r2 := HK.out.at (b := w.heap.size) (o := 2) (v := .int .i64 0) (by simp)
        have s0 := HF.out 0
        have s1 := HF.out 1
        have s2 := HF.out 2
        go_wp2
        refine bodyPost_ret (v := .agg #[.int .i64 0, .int .i64 0, .int .i64 3]) (by simp [results, Tryd.results37, go_sem, r0, r1, r2]) rfl (readR_mk _ _ _ HR.out ?_)
        exact ((HK.out.below.setCell (Nat.le_refl _) _).setCell (Nat.le_refl _) _).setCell (Nat.le_refl _) _
  · have HR := Lib.hid (show ReadP t 0 0 2 from .inl ⟨hz, rfl, rfl, rfl⟩)
    go_enter Tryd.func37, Tryd.ntmps37
    go_wp2
    refine bodyPost_ret (v := .agg #[.int .i64 0, .int .i64 0, .int .i64 2]) (by simp [results, Tryd.results37, go_sem]) rfl (readR_mk _ _ _ HR.out ?_)
    repeat (first | exact Below.refl _ _ | refine Below.setCell ?_ (by first | omega | (simp <;> omega)) _ | refine Below.alloc ?_ (by first | omega | (simp <;> omega)) _)
end Go.Proofs.YtdimpopkkjpddaaDoor.LabC
