/- The model's draws of labels for the laws: contracts of spoil, pick and DrawLabelRead. -/
import Derived.Test.YtdimpopkkjpddaaDoorLDraw3
import Derived.Test.YtdimpopkkjpddaaDoorLDraw2
import Derived.Test.YtdimpopkkjpddaaDoorReadMath
import Derived.Deep.QuietTactic
import Derived.BigQuiet
namespace Go.Proofs.YtdimpopkkjpddaaDoor.DrawC
open Go.RowKit RepC
set_option linter.unusedVariables false
set_option linter.unusedSimpArgs false

/-- a text of a source, at most n bytes -/
def DrawnT (g : Nat) (b : Option Addr) (len cap n : Nat) (w : World) (e : Ending) (w' : World) : Prop :=
  ∃ t : ByteArray, e = .returned (.string t) ∧ t.size ≤ n ∧ Src g b len cap w' ∧ But g w w'
theorem drawnT_mk {g : Nat} {b : Option Addr} {len cap n : Nat} {w w' : World} (t : ByteArray) (ht : t.size ≤ n) (hs : Src g b len cap w') (hb : But g w w') : DrawnT g b len cap n w (.returned (.string t)) w' := ⟨t, rfl, ht, hs, hb⟩

set_option maxRecDepth 100000 in
set_option maxHeartbeats 1600000 in
theorem pick_any (g : Nat) (b : Option Addr) (len cap : Nat) (x k : Nat) (w : World) (h : Src g b len cap w) (hx : x < w.heap.size) (hg : x ≠ g) (k0 : 0 < k) (k1 : k ≤ 1000)
    (hc : ∀ j, j < k → ∃ t : ByteArray, t.size ≤ 10 ∧ w.cell? ⟨x, j, none⟩ = some (.string t)) :
    Calls Tryd.prog 72 #[.pointer (some ⟨g, 0, none⟩), .slice (some ⟨x, 0, none⟩) k k] w (DrawnT g b len cap 10 w) := by
  have HS := Lib.hid h
  have HC := Lib.hid hc
  clear h hc
  go_enter Tryd.func72, Tryd.ntmps72
  go_wp2_with fail
  refine (n_any g b len cap _ _ HS.out (by omega)).mono ?_
  rintro e w1 ⟨v, rfl, v0, v1, hs, hb⟩
  have hv : v < k := by omega
  obtain ⟨m, rfl⟩ : ∃ m : Nat, v = (m : Int) := ⟨v.toNat, by omega⟩
  have hm : m < k := by omega
  obtain ⟨t, ht, hcell⟩ := HC.out m hm
  have hcell1 : w1.cell? ⟨x, m, none⟩ = some (.string t) := (hb.cell (p := ⟨x, m, none⟩) hx hg).trans hcell
  have HR : Hid (Src g b len cap w1 ∧ But g w w1) := Lib.hid ⟨hs, hb⟩
  clear hs hb hcell v1
  go_wp2
  go_ret
  exact drawnT_mk t ht HR.out.1 HR.out.2

theorem conv_one (w : World) (u : UInt8) :
    (convert 31 9 (.slice (some ⟨w.heap.size, 0, none⟩) 1 1)).run Tryd.prog (w.alloc (.cells #[.int .u8 (u.toNat : Int)] 5)) = .ok (.string (bytesOf [u])) (w.alloc (.cells #[.int .u8 (u.toNat : Int)] 5)) :=
  run_convert_bytes_back _ 31 9 5 ⟨w.heap.size, 0, none⟩ 1 [u] Tryd.underlying31 Tryd.underlying5 Tryd.underlying9 (fun j hj => by
    have h0 : j = 0 := by simp at hj; omega
    subst h0
    exact cell_one_new w _ _ 0 _ rfl)

set_option maxRecDepth 100000 in
set_option maxHeartbeats 1600000 in
theorem spoil_any (g : Nat) (b : Option Addr) (len cap : Nat) (t : ByteArray) (w : World) (h : Src g b len cap w) (ht : t.size ≤ 1000000) :
    Calls Tryd.prog 71 #[.pointer (some ⟨g, 0, none⟩), .string t] w (DrawnT g b len cap (t.size + 1) w) := by
  have HS := Lib.hid h
  clear h
  go_enter Tryd.func71, Tryd.ntmps71
  go_wp2_with fail
  refine (n_any g b len cap _ _ HS.out (by omega)).mono ?_
  rintro e w1 ⟨v, rfl, v0, v1, hs, hb⟩
  have hv : v < (t.size : Int) + 1 := by omega
  obtain ⟨m, rfl⟩ : ∃ m : Nat, v = (m : Int) := ⟨v.toNat, by omega⟩
  have hm : m ≤ t.size := by omega
  have HR1 : Hid (Src g b len cap w1 ∧ But g w w1) := Lib.hid ⟨hs, hb⟩
  clear hs hb v0 v1 hv HS
  go_wp2_with fail
  refine (n_any g b len cap _ _ HR1.out.1 (by omega)).mono ?_
  rintro e w2 ⟨v, rfl, v0, v1, hs, hb⟩
  have hv : v < 17 := by omega
  obtain ⟨c, rfl⟩ : ∃ c : Nat, v = (c : Int) := ⟨v.toNat, by omega⟩
  have hc : c < 17 := by omega
  have HR2 : Hid (Src g b len cap w2 ∧ But g w w2) := Lib.hid ⟨hs, HR1.out.2.trans hb⟩
  clear hs hb v0 v1 hv HR1
  have hconv := fun u : UInt8 => conv_one w2 u
  generalize hbs : bytesOf = BO at hconv
  have hBO : ∀ u, (BO [u]).size = 1 := by subst hbs; intro u; rfl
  have HBO := Lib.hid hBO
  clear hBO hbs
  go_wp2_with fail
  · have hcc := HBO.out ({ data := #[32, 10, 48, 97, 45, 110, 44, 58, 93, 255, 40, 120, 126, 49, 128, 225, 59] : ByteArray}[c])
    generalize BO [({ data := #[32, 10, 48, 97, 45, 110, 44, 58, 93, 255, 40, 120, 126, 49, 128, 225, 59] : ByteArray}[c])] = cc at hcc ⊢
    have HR3 : Hid (Src g b len cap (w2.alloc (.cells #[.int .u8 (({ data := #[32, 10, 48, 97, 45, 110, 44, 58, 93, 255, 40, 120, 126, 49, 128, 225, 59] : ByteArray}[c]).toNat : Int)] 5)) ∧ But g w (w2.alloc (.cells #[.int .u8 (({ data := #[32, 10, 48, 97, 45, 110, 44, 58, 93, 255, 40, 120, 126, 49, 128, 225, 59] : ByteArray}[c]).toNat : Int)] 5))) := Lib.hid ⟨HR2.out.1.alloc _, HR2.out.2.alloc _⟩
    clear HBO HR2
    go_quiet (fail)
    go_wp2
    go_ret
    exact drawnT_mk _ (by simp only [ByteArray.size_append, ByteArray.size_extract]; omega) (HR3.out.1.mono (bdrewN (Below.refl _ _) _)) (HR3.out.2.drewN _)
  · have hlt : (m : Int) < t.size := by omega
    have hlt2 : m < t.size := by omega
    have hcc := HBO.out ({ data := #[32, 10, 48, 97, 45, 110, 44, 58, 93, 255, 40, 120, 126, 49, 128, 225, 59] : ByteArray}[c])
    generalize BO [({ data := #[32, 10, 48, 97, 45, 110, 44, 58, 93, 255, 40, 120, 126, 49, 128, 225, 59] : ByteArray}[c])] = cc at hcc ⊢
    clear HBO
    refine (one_any g b len cap _ _ (HR2.out.1.alloc _) (by omega)).mono ?_
    rintro e w3 ⟨v, rfl, hs, hb⟩
    have HR3 : Hid (Src g b len cap w3 ∧ But g w w3) := Lib.hid ⟨hs, (HR2.out.2.alloc _).trans hb⟩
    clear hs hb HR2
    cases v with
    | true =>
      go_wp2_with fail
      go_quiet (fail)
      go_wp2
      go_ret
      exact drawnT_mk _ (by simp only [ByteArray.size_append, ByteArray.size_extract]; omega) (HR3.out.1.mono (bdrewN (Below.refl _ _) _)) (HR3.out.2.drewN _)
    | false =>
      go_wp2_with fail
      refine (one_any g b len cap _ _ HR3.out.1 (by omega)).mono ?_
      rintro e w4 ⟨v, rfl, hs, hb⟩
      have HR4 : Hid (Src g b len cap w4 ∧ But g w w4) := Lib.hid ⟨hs, HR3.out.2.trans hb⟩
      clear hs hb HR3
      cases v with
      | true =>
        go_wp2_with fail
        go_quiet (fail)
        go_wp2
        go_ret
        exact drawnT_mk _ (by simp only [ByteArray.size_append, ByteArray.size_extract]; omega) (HR4.out.1.mono (bdrewN (Below.refl _ _) _)) (HR4.out.2.drewN _)
      | false =>
        go_wp2_with fail
        go_quiet (fail)
        go_wp2
        go_ret
        exact drawnT_mk _ (by simp only [ByteArray.size_append, ByteArray.size_extract]; omega) (HR4.out.1.mono (bdrewN (Below.refl _ _) _)) (HR4.out.2.drewN _)

theorem textV_size (l s : Int) : (LabC.textV l s).size ≤ 5 := by
  unfold LabC.textV
  split
  · exact LabC.txt_size l s 3
  · exact Nat.zero_le _

/-- some text of a law, at most n bytes -/
def DrawnU (n : Nat) (w : World) (e : Ending) (w' : World) : Prop := ∃ t : ByteArray, e = .returned (.string t) ∧ t.size ≤ n ∧ Below w.heap.size w w'
theorem drawnU_mk {n : Nat} {w w' : World} (t : ByteArray) (ht : t.size ≤ n) (hb : Below w.heap.size w w') : DrawnU n w (.returned (.string t)) w' := ⟨t, rfl, ht, hb⟩

set_option maxRecDepth 100000 in
set_option maxHeartbeats 1600000 in
theorem draw_labelread (b : Option Addr) (len cap : Nat) (w : World) (hlen : len ≤ 1048576) (h : CodeIn w b len) :
    Calls Tryd.prog 29 #[.slice b len cap] w (DrawnU 100 w) := by
  have HC := Lib.hid h
  clear h
  go_enter Tryd.func29, Tryd.ntmps29
  go_wp2_with fail
  refine (source_any b len cap _ hlen HC.out).mono ?_
  rintro e w1 ⟨rfl, hs, hb⟩
  have HB1 := Lib.hid hb
  have HS1 := Lib.hid hs
  clear hs hb
  go_wp2_with fail
  refine (label_any _ b len cap _ HS1.out).mono ?_
  intro e w2 h
  obtain ⟨l, s, rfl, hs, hb⟩ := drawnL_elim h
  have HB2 := Lib.hid (HB1.out.trans (hb.below HB1.out.size (Nat.le_refl _)))
  have HS2 := Lib.hid hs
  clear h hs hb HB1 HS1
  go_wp2_with fail
  refine (LabC.ts_w l s _).mono ?_
  rintro e w3 ⟨rfl, hb⟩
  have hsz := textV_size l s
  generalize LabC.textV l s = t at hsz ⊢
  have HB3 := Lib.hid (HB2.out.trans (hb.mono HB2.out.size))
  have HS3 := Lib.hid (HS2.out.mono (hb.mono HS2.out.lt))
  clear hb HB2 HS2
  go_wp2_with fail
  refine (n_any _ b len cap _ _ HS3.out (by omega)).mono ?_
  rintro e w4 ⟨v, rfl, v0, v1, hs, hb⟩
  have HB4 := Lib.hid (HB3.out.trans (hb.below HB3.out.size (Nat.le_refl _)))
  have HS4 := Lib.hid hs
  clear hs hb HB3 HS3 v0 v1
  have hd : ∃ c : Bool, decide (v = 0) = c := ⟨_, rfl⟩
  by_cases h0 : v = 0
  · go_wp2_with fail
    refine (spoil_any _ b len cap t _ HS4.out (by omega)).mono ?_
    rintro e w5 ⟨u, rfl, hu, hs, hb⟩
    have HB5 := Lib.hid (HB4.out.trans (hb.below HB4.out.size (Nat.le_refl _)))
    clear hs hb HB4 HS4
    go_wp2
    go_ret
    exact drawnU_mk u (by omega) HB5.out
  · by_cases h1 : v = 1
    · go_wp2_with fail
      refine (pick_any _ b len cap _ 6 _ (HS4.out.alloc _) (by simp) (by have := HS4.out.lt; omega) (by omega) (by omega) (fun j hj => ?_)).mono ?_
      · match j, hj with
        | 0, _ => exact ⟨_, by decide, (Blk.new _ _ _).at_ 0 rfl⟩
        | 1, _ => exact ⟨_, by decide, (Blk.new _ _ _).at_ 1 rfl⟩
        | 2, _ => exact ⟨_, by decide, (Blk.new _ _ _).at_ 2 rfl⟩
        | 3, _ => exact ⟨_, by decide, (Blk.new _ _ _).at_ 3 rfl⟩
        | 4, _ => exact ⟨_, by decide, (Blk.new _ _ _).at_ 4 rfl⟩
        | 5, _ => exact ⟨_, by decide, (Blk.new _ _ _).at_ 5 rfl⟩
        | j + 6, hj => omega
      · rintro e w5 ⟨u, rfl, hu, hs, hb⟩
        have HB5 := Lib.hid (HB4.out.trans (((But.refl _ _).alloc _).trans hb |>.below HB4.out.size (Nat.le_refl _)))
        clear hs hb HB4 HS4
        go_wp2
        go_ret
        exact drawnU_mk u (by omega) HB5.out
    · go_wp2
      go_ret
      exact drawnU_mk t (by omega) HB4.out

end Go.Proofs.YtdimpopkkjpddaaDoor.DrawC
