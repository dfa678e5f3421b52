/- DiskNew: contracts. -/
import Derived.Test.YtdedomfocljhaaaDsP
namespace Go.Proofs.Ytdedomfocljhaaa.RepC
open Go.RowKit RowC ValC SpanC KeptC
set_option linter.unusedVariables false
set_option linter.unusedSimpArgs false
set_option maxRecDepth 100000

def noS : ByteArray := ⟨#[]⟩
def noR : D_Region := (noS, noS, noS)
def newDk (n : Int) : D_Disk := if isB n 1 13 = true then (List.replicate n.toNat noR, -1) else ([], 0)
theorem newDk_yes {n : Int} (h : isB n 1 13 = true) : newDk n = (List.replicate n.toNat noR, -1) := if_pos h
theorem newDk_no {n : Int} (h : isB n 1 13 = false) : newDk n = ([], 0) := if_neg (by rw [h]; decide)
theorem empty_ow {α : Type} {E : Rp α} {W : World} {S : Nat → Prop} : OwSl E W S ([] : List α) none 0 := ⟨Nat.le_refl _, by unfold maxLen; omega, fun h => absurd h (Nat.lt_irrefl _)⟩
/-- a made row of empty regions -/
theorem regions_new {w' : World} {g n : Nat} (hb : Blk w' g 77 (zs_RegionS n)) {S : Nat → Prop} (hS : S g) (hn : n ≤ 1048576) : OwSl R_Region w' S (List.replicate n noR) (some ⟨g, 0, none⟩) n := by
  refine ⟨by simp, by unfold maxLen; omega, fun _ => ⟨g, fun _ _ => False, rfl, hS, fun j => hb.soft j, fun i k h => h.elim, fun i j k _ h => h.elim, fun i x hx => ?_⟩⟩
  have hi := el_lt hx
  rw [List.length_replicate] at hi
  obtain rfl : x = noR := by rw [List.getElem?_replicate, if_pos hi] at hx; exact (Option.some.inj hx).symm
  have e : ∀ j, j < n * 3 → (zs_RegionS n)[j]? = some (.string ⟨#[]⟩) := fun j hj => by
    unfold zs_RegionS madeCells
    rcases (show j % 3 = 0 ∨ j % 3 = 1 ∨ j % 3 = 2 by omega) with h | h | h <;> simp [hj, h]
  refine ⟨[.string ⟨#[]⟩, .string ⟨#[]⟩, .string ⟨#[]⟩], fun j d hd => ?_, mkow_Region (by decide) (by decide) (by decide)⟩
  rw [size_RegionS]
  match j, hd with
  | 0, hd => simp at hd; subst hd; exact hb.at_ (i * 3) (e _ (by omega))
  | 1, hd => simp at hd; subst hd; exact hb.at_ (i * 3 + 1) (e _ (by omega))
  | 2, hd => simp at hd; subst hd; exact hb.at_ (i * 3 + 2) (e _ (by omega))
  | j + 3, hd => simp at hd
set_option maxHeartbeats 1600000 in
theorem dknew_spec (n : Int) (W : World) : Calls Try.prog 27 #[.int .i64 n] W (NewV R_Disk (newDk n) W) := by
  have IC := Lib.hid (fun w => is_spec n 1 13 w)
  obtain ⟨q, hq⟩ : ∃ q, isB n 1 13 = q := ⟨_, rfl⟩
  have HQ := Lib.hid hq
  rw [hq] at IC
  clear hq
  obtain ⟨w0, hw0⟩ : ∃ w, w = W.alloc (.cells #[.slice none 0 0, .int .i64 0] 47) := ⟨_, rfl⟩
  have HB0 := Lib.hid (show Below W.heap.size W w0 from by rw [hw0]; exact (Below.refl _ _).alloc (Nat.le_refl _) _)
  have X1 := Lib.hid (show Blk w0 W.heap.size 47 #[.slice none 0 0, .int .i64 0] from by rw [hw0]; exact Blk.new _ _ _)
  have q0 := X1.out.at_ 0 rfl
  have q1 := X1.out.at_ 1 rfl
  have s0 := X1.out.soft 0
  have s1 := X1.out.soft 1
  have hlt1 : W.heap.size < w0.heap.size := X1.out.lt
  cases q with
  | false =>
    have HN := Lib.hid (newDk_no HQ.out)
    go_enter Try.func27, Try.ntmps27
    go_upto_region 1 with fail
    rw [← hw0]
    clear hw0
    go_wp2_with fail
    refine (IC.out _).mono ?_
    rintro e w1 ⟨rfl, rfl⟩
    go_wp2
    refine bodyPost_ret (v := .agg #[.slice none 0 0, .int .i64 0]) (by simp [results, Try.results27, go_sem, *]) rfl ⟨[.slice none 0 0, .int .i64 0], rfl, ?_, (HB0.out.setCell (p := ⟨W.heap.size, 0, none⟩) (Nat.le_refl _) _).setCell (p := ⟨W.heap.size, 1, none⟩) (Nat.le_refl _) _⟩
    rw [HN.out]
    exact mkow_Disk (T0 := fun _ => False) (fun k h => h.elim) empty_ow
  | true =>
    obtain ⟨h1, h2⟩ := (isB_iff _ _ _).1 HQ.out
    obtain ⟨m, rfl⟩ := Int.eq_ofNat_of_zero_le (show (0 : Int) ≤ n by omega)
    have HN := Lib.hid (newDk_yes HQ.out)
    have h4 : m ≤ 1048576 := by omega
    have hmk := make_RegionS m h4
    go_enter Try.func27, Try.ntmps27
    go_upto_region 1 with fail
    rw [← hw0]
    clear hw0
    go_wp2_with fail
    refine (IC.out _).mono ?_
    rintro e w1 ⟨rfl, rfl⟩
    go_wp2
    have hsz := HB0.out.size
    have hbk := Blk.new ((w0.setCell ⟨W.heap.size, 0, none⟩ (.slice (some ⟨w0.heap.size, 0, none⟩) m m)).setCell ⟨W.heap.size, 1, none⟩ (.int .i64 (-1))) 77 (zs_RegionS m)
    have hss : ((w0.setCell ⟨W.heap.size, 0, none⟩ (.slice (some ⟨w0.heap.size, 0, none⟩) m m)).setCell ⟨W.heap.size, 1, none⟩ (.int .i64 (-1))).heap.size = w0.heap.size := by simp [World.setCell]
    rw [hss] at hbk
    have ho := regions_new (S := fun k => k = w0.heap.size) hbk rfl h4
    have hbl := ((HB0.out.setCell (p := ⟨W.heap.size, 0, none⟩) (Nat.le_refl _) (.slice (some ⟨w0.heap.size, 0, none⟩) m m)).setCell (p := ⟨W.heap.size, 1, none⟩) (Nat.le_refl _) (.int .i64 (-1))).alloc (by rw [hss]; exact hsz) (.cells (zs_RegionS m) 77)
    have hmm := mkow_Disk (x1 := -1) (S := Rg W.heap.size (w0.heap.size + 1)) (T0 := fun k => k = w0.heap.size) (fun k hk => by subst hk; exact ⟨hsz, Nat.lt_succ_self _⟩) ho
    simp only [List.length_replicate] at hmm
    refine bodyPost_ret (v := .agg #[.slice (some ⟨w0.heap.size, 0, none⟩) m m, .int .i64 (-1)]) (by simp [results, Try.results27, go_sem, *]) rfl ⟨[.slice (some ⟨w0.heap.size, 0, none⟩) m m, .int .i64 (-1)], rfl, ?_, hbl⟩
    rw [HN.out, World.size_alloc, hss, Int.toNat_natCast]
    exact hmm
set_option maxHeartbeats 1600000 in
theorem dknew_impl (n : Int) (W : World) : Calls Try.prog 28 #[.int .i64 n] W (NewV R_Disk (newDk n) W) := by
  have IC := Lib.hid (fun w => is_impl n 1 13 w)
  obtain ⟨q, hq⟩ : ∃ q, isB n 1 13 = q := ⟨_, rfl⟩
  have HQ := Lib.hid hq
  rw [hq] at IC
  clear hq
  obtain ⟨w0, hw0⟩ : ∃ w, w = W.alloc (.cells #[.slice none 0 0, .int .i64 0] 47) := ⟨_, rfl⟩
  have HB0 := Lib.hid (show Below W.heap.size W w0 from by rw [hw0]; exact (Below.refl _ _).alloc (Nat.le_refl _) _)
  have X1 := Lib.hid (show Blk w0 W.heap.size 47 #[.slice none 0 0, .int .i64 0] from by rw [hw0]; exact Blk.new _ _ _)
  have q0 := X1.out.at_ 0 rfl
  have q1 := X1.out.at_ 1 rfl
  have s0 := X1.out.soft 0
  have s1 := X1.out.soft 1
  have hlt1 : W.heap.size < w0.heap.size := X1.out.lt
  cases q with
  | false =>
    have HN := Lib.hid (newDk_no HQ.out)
    go_enter Try.func28, Try.ntmps28
    go_upto_region 1 with fail
    rw [← hw0]
    clear hw0
    go_wp2_with fail
    refine (IC.out _).mono ?_
    rintro e w1 ⟨rfl, rfl⟩
    go_wp2
    refine bodyPost_ret (v := .agg #[.slice none 0 0, .int .i64 0]) (by simp [results, Try.results28, go_sem, *]) rfl ⟨[.slice none 0 0, .int .i64 0], rfl, ?_, (HB0.out.setCell (p := ⟨W.heap.size, 0, none⟩) (Nat.le_refl _) _).setCell (p := ⟨W.heap.size, 1, none⟩) (Nat.le_refl _) _⟩
    rw [HN.out]
    exact mkow_Disk (T0 := fun _ => False) (fun k h => h.elim) empty_ow
  | true =>
    obtain ⟨h1, h2⟩ := (isB_iff _ _ _).1 HQ.out
    obtain ⟨m, rfl⟩ := Int.eq_ofNat_of_zero_le (show (0 : Int) ≤ n by omega)
    have HN := Lib.hid (newDk_yes HQ.out)
    have h4 : m ≤ 1048576 := by omega
    have hmk := make_RegionS m h4
    go_enter Try.func28, Try.ntmps28
    go_upto_region 1 with fail
    rw [← hw0]
    clear hw0
    go_wp2_with fail
    refine (IC.out _).mono ?_
    rintro e w1 ⟨rfl, rfl⟩
    go_wp2
    have hsz := HB0.out.size
    have hbk := Blk.new ((w0.setCell ⟨W.heap.size, 0, none⟩ (.slice (some ⟨w0.heap.size, 0, none⟩) m m)).setCell ⟨W.heap.size, 1, none⟩ (.int .i64 (-1))) 77 (zs_RegionS m)
    have hss : ((w0.setCell ⟨W.heap.size, 0, none⟩ (.slice (some ⟨w0.heap.size, 0, none⟩) m m)).setCell ⟨W.heap.size, 1, none⟩ (.int .i64 (-1))).heap.size = w0.heap.size := by simp [World.setCell]
    rw [hss] at hbk
    have ho := regions_new (S := fun k => k = w0.heap.size) hbk rfl h4
    have hbl := ((HB0.out.setCell (p := ⟨W.heap.size, 0, none⟩) (Nat.le_refl _) (.slice (some ⟨w0.heap.size, 0, none⟩) m m)).setCell (p := ⟨W.heap.size, 1, none⟩) (Nat.le_refl _) (.int .i64 (-1))).alloc (by rw [hss]; exact hsz) (.cells (zs_RegionS m) 77)
    have hmm := mkow_Disk (x1 := -1) (S := Rg W.heap.size (w0.heap.size + 1)) (T0 := fun k => k = w0.heap.size) (fun k hk => by subst hk; exact ⟨hsz, Nat.lt_succ_self _⟩) ho
    simp only [List.length_replicate] at hmm
    refine bodyPost_ret (v := .agg #[.slice (some ⟨w0.heap.size, 0, none⟩) m m, .int .i64 (-1)]) (by simp [results, Try.results28, go_sem, *]) rfl ⟨[.slice (some ⟨w0.heap.size, 0, none⟩) m m, .int .i64 (-1)], rfl, ?_, hbl⟩
    rw [HN.out, World.size_alloc, hss, Int.toNat_natCast]
    exact hmm
end Go.Proofs.Ytdedomfocljhaaa.RepC
