/- Rows of strings in the laws: comparison, marks: contracts. -/
import Derived.Test.YtphklknaagjmpaaGreatDoorVals
import Derived.Test.YtphklknaagjmpaaGreatDoorTk
import Derived.Test.YtphklknaagjmpaaGreatDoorDraws
import Derived.LoopTactic
import Derived.BigQuiet
import Derived.Deep.QuietTactic
import Derived.Deep.RegionWith
import Derived.Deep.RegionHeld3
import Derived.RegionTactic
import Derived.WalkSpells
import Derived.WalkLawsBesides
import Derived.IntWalk
import Derived.Lib.Hide
namespace Go.Proofs.YtphklknaagjmpaaGreatDoor.StrC
open Go.RowKit RowC ValC
set_option linter.unusedSimpArgs false
set_option linter.unusedVariables false

def mtl (k : Nat) (out : ByteArray) : ByteArray := if h : k = 0 then out else mtl (k / 10) (⟨#[48 + UInt8.ofNat (k % 10)]⟩ ++ out)
termination_by k
decreasing_by omega
theorem mtl_zero (out : ByteArray) : mtl 0 out = out := by unfold mtl; simp
theorem mtl_pos {k : Nat} (h : 0 < k) (out : ByteArray) : mtl k out = mtl (k / 10) (⟨#[48 + UInt8.ofNat (k % 10)]⟩ ++ out) := by
  rw [mtl]; rw [dif_neg (by omega)]
theorem sz1 (c : UInt8) (out : ByteArray) : ((⟨#[c]⟩ : ByteArray) ++ out).size = 1 + out.size := by rw [ByteArray.size_append]; rfl
/-- the mark k -/
def mt (k : Nat) : ByteArray := ⟨#[109]⟩ ++ mtl k ⟨#[]⟩
theorem conv_one (W : World) (c : UInt8) : (convert 22 9 (.slice (some ⟨W.heap.size, 0, none⟩) 1 1)).run Tryz.prog (W.alloc (.cells #[.int .u8 (c.toNat : Int)] 5)) = .ok (.string ⟨#[c]⟩) (W.alloc (.cells #[.int .u8 (c.toNat : Int)] 5)) := by
  have h := DrawC.conv_of_own (B := 0) (w := W.alloc (.cells #[.int .u8 (c.toNat : Int)] 5)) (v := .slice (some ⟨W.heap.size, 0, none⟩) 1 1) (l := [c]) ?_
  · simpa [DrawC.bytesOf] using h
  · exact ⟨by simp, .inr ⟨W.heap.size, 1, #[.int .u8 (c.toNat : Int)], rfl, Nat.zero_le _, heap_alloc_new W _, Nat.le_refl _, by decide, rfl, rfl⟩⟩
set_option maxRecDepth 100000 in
set_option maxHeartbeats 1600000 in
theorem marktext_v (k : Nat) (w : World) (h1 : 1 ≤ k) (h2 : k ≤ 1073741824) :
    Calls Tryz.prog 35 #[.int .i64 k] w fun e w' => e = .returned (.string (mt k)) ∧ Below w.heap.size w w' := by
  go_enter Tryz.func35, Tryz.ntmps35
  have hd : decide ((k : Int) ≤ 0) = false := decide_eq_false (by omega)
  go_wp2
  go_loopw [0, 3] (fun i v wr => ∃ (q : Nat) (out : ByteArray), out.size + q ≤ k ∧ i = .int .i64 q ∧ v = .string out ∧ mtl q out = mtl k ⟨#[]⟩ ∧ Below w.heap.size w wr) (fun i _ _ => (intOf i).toNat)
  case atStart => exact ⟨k, ⟨#[]⟩, by simp [ByteArray.size], rfl, rfl, rfl, Below.refl _ _⟩
  case round =>
    obtain ⟨q, out, hqk, rfl, rfl, hm, hb⟩ := hrel
    have HM := Lib.hid hm
    have HB := Lib.hid hb
    clear hm hb
    by_cases hq : 0 < q
    · have hpos : (0 : Int) < (q : Int) := by omega
      have hd2 : decide ((0 : Int) < (q : Int)) = true := decide_eq_true hpos
      have hc : ((48 + UInt8.ofNat (q % 10)).toNat : Int) = 48 + (q : Int) % 10 := by rw [show 48 + UInt8.ofNat (q % 10) = UInt8.ofNat (48 + q % 10) by simp, UInt8.toNat_ofNat']; omega
      have hconv := conv_one wr (48 + UInt8.ofNat (q % 10))
      rw [hc] at hconv
      have HC := Lib.hid (mtl_pos hq out)
      have hs1 : out.size ≤ 1073741824 := by omega
      clear hc
      go_wp2
      go_roundw
      case rel => exact ⟨q / 10, _, by rw [sz1]; omega, by go_num, rfl, by rw [← HC.out]; exact HM.out, HB.out.alloc HB.out.size _⟩
      case measure => simp [intOf]; omega
    · obtain rfl : q = 0 := by omega
      have HE := Lib.hid (show mt k = ⟨#[109]⟩ ++ out from by unfold mt; rw [← HM.out, mtl_zero])
      go_wp2
      go_ret
      exact ⟨by rw [HE.out]; rfl, HB.out⟩

/-- n strings as f says -/
abbrev StrV (n : Nat) (f : Nat → ByteArray) (W : World) (S : Nat → Prop) (v : Value) : Prop := RowV W S v n 1 (fun j => .string (f j))
theorem bdrewN {B : Nat} {w W : World} (h : Below B w W) (n : Nat) : Below B w (W.drewN n) := ⟨h.os, h.tape, h.output, h.size, h.block⟩
set_option maxHeartbeats 1600000 in
theorem eqStr_v {n : Nat} {f h : Nat → ByteArray} {v v' : Value} {S S' : Nat → Prop} {w : World} (hn : n ≤ 2097152) (h1 : StrV n f w S v) (h2 : StrV n h w S' v') (he : ∀ i, i < n → f i = h i) :
    Calls Tryz.prog 18 #[v, v'] w (IsB true w) := by
  have h2 : StrV n f w S' v' := RowV.congr h2 (fun j hj => by rw [he j (by omega)])
  refine h1.cases (fun a cap e0 e1 => ?_) (fun g cap hpos hcap e1 hg l1 hc1 hf1 => ?_)
  · subst e0 e1
    obtain ⟨_, a', cap', rfl, _, _⟩ := h2
    clear h1 he
    go_enter Tryz.func18, Tryz.ntmps18
    go_wp2
    go_loopw [5] (fun i wr => i = .int .i64 0 ∧ wr = w) (fun i _ => 0)
    case atStart => exact ⟨rfl, rfl⟩
    case round =>
      obtain ⟨rfl, rfl⟩ := hrel
      go_wp2
      go_ret
      exact ⟨rfl, Below.refl _ _⟩
  · refine h2.cases (fun a cap e0 e1 => by omega) (fun g' cap' _ hcap' e2 hg' l2 hc2 hf2 => ?_)
    subst e1 e2
    have H1 := Lib.hid hc1
    have H2 := Lib.hid hc2
    clear h1 h2 hc1 hc2 hf1 hf2 he hg hg'
    go_enter Tryz.func18, Tryz.ntmps18
    go_wp2
    go_loopw [5] (fun i wr => ∃ k : Nat, k ≤ n ∧ i = .int .i64 k ∧ Below w.heap.size w wr) (fun i _ => n - (intOf i).toNat)
    case atStart => exact ⟨0, Nat.zero_le _, rfl, Below.refl _ _⟩
    case round =>
      obtain ⟨k, hk, rfl, hb⟩ := hrel
      have HB := Lib.hid hb
      by_cases hlt : k < n
      · have hc0 : wr.cell? ⟨g, k, none⟩ = some (.string (f k)) := (hb.cell (p := ⟨g, k, none⟩) l1).trans (H1.out k (by omega))
        have hd0 : wr.cell? ⟨g', k, none⟩ = some (.string (f k)) := (hb.cell (p := ⟨g', k, none⟩) l2).trans (H2.out k (by omega))
        have hi0 : (0 : Int) ≤ (k : Int) := Int.natCast_nonneg _
        have hi1 : (k : Int) < (n : Int) := by omega
        clear hb
        go_wp2_with fail
        go_quiet (fail)
        all_goals
          go_wp2
          go_roundw
          case rel => exact ⟨k + 1, by omega, by go_num, by first | exact bdrewN HB.out _ | exact HB.out.drew | exact HB.out⟩
          case measure => simp [intOf]; omega
      · clear hb
        go_wp2
        go_ret
        exact ⟨rfl, HB.out⟩

def MkS (g n i : Nat) (k : Nat) (w W : World) : Prop := (∀ j, j < n → ∃ u, W.cell? ⟨g, j, none⟩ = some u ∧ (j < i → u = .string (mt (k + j)))) ∧ (∀ j, W.frozen? ⟨g, j, none⟩ = false) ∧ Off (fun x => x = g) w W
theorem MkS.put {g n i : Nat} {k : Nat} {w W : World} (h : MkS g n i k w W) (hi : i < n) : MkS g n (i + 1) k w (W.setCell ⟨g, i, none⟩ (.string (mt (k + i)))) := by
  obtain ⟨h1, h2, h3⟩ := h
  have ne : ∀ a b : Nat, a ≠ b → (⟨g, a, none⟩ : Addr) ≠ ⟨g, b, none⟩ := fun a b hab e => hab (by injection e)
  refine ⟨fun j hj => ?_, fun j => by simpa using h2 j, h3.setCell rfl _⟩
  obtain ⟨u, hu, hk⟩ := h1 j hj
  by_cases e2 : j = i
  · subst e2
    exact ⟨_, World.cell?_setCell_same' _ _ _ (by rw [hu]; rfl), fun _ => rfl⟩
  · rw [World.cell?_setCell_other _ _ _ _ (ne _ _ (Ne.symm e2))]
    exact ⟨u, hu, fun hj2 => hk (by omega)⟩
theorem MkS.call {g n i : Nat} {k : Nat} {w W W' : World} (h : MkS g n i k w W) (hg : g < W.heap.size) (hb : Below W.heap.size W W') : MkS g n i k w W' := by
  obtain ⟨h1, h2, h3⟩ := h
  refine ⟨fun j hj => ?_, fun j => (hb.frozen (p := ⟨g, j, none⟩) hg).trans (h2 j), h3.of_below hb⟩
  obtain ⟨u, hu, hk⟩ := h1 j hj
  exact ⟨u, (hb.cell (p := ⟨g, j, none⟩) hg).trans hu, hk⟩

set_option maxHeartbeats 1600000 in
theorem markStr_v {n : Nat} {f : Nat → ByteArray} {v : Value} {S : Nat → Prop} {w : World} {k : Nat} (hn : n ≤ 2097152) (hk0 : 1 ≤ k) (hk1 : k ≤ 1000000000) (h1 : StrV n f w S v) :
    Calls Tryz.prog 19 #[v, .int .i64 k] w (Marks S ((k + n : Nat) : Int) (fun w' => StrV n (fun j => mt (k + j)) w' S v) w) := by
  have H1 := Lib.hid h1
  refine h1.cases (fun a cap e0 e1 => ?_) (fun g cap hpos hcap e1 hg l1 hc1 hf1 => ?_)
  · subst e0 e1
    have HR := Lib.hid (show Marks S ((k + 0 : Nat) : Int) (fun w' => StrV 0 (fun j => mt (k + j)) w' S (.slice a 0 cap)) w (.returned (.int .i64 k)) w from ⟨by simp, RowV.congr h1 (fun j hj => by omega), Off.refl _ _⟩)
    clear h1
    go_enter Tryz.func19, Tryz.ntmps19
    go_wp2
    go_loopw [5, 1] (fun i q wr => i = .int .i64 0 ∧ q = .int .i64 k ∧ wr = w) (fun i _ _ => 0)
    case atStart => exact ⟨rfl, rfl, rfl⟩
    case round =>
      obtain ⟨rfl, rfl, rfl⟩ := hrel
      go_wp2
      go_ret
      exact HR.out
  · subst e1
    have HM := Lib.hid (show MkS g n 0 k w w from ⟨fun j hj => ⟨_, hc1 j (by omega), fun h => by omega⟩, hf1, Off.refl _ _⟩)
    clear h1 hc1 hf1
    go_enter Tryz.func19, Tryz.ntmps19
    go_wp2
    go_loopw [5, 1] (fun i q wr => ∃ j : Nat, j ≤ n ∧ i = .int .i64 j ∧ q = .int .i64 ((k + j : Nat) : Int) ∧ Hid (MkS g n j k w wr)) (fun i _ _ => n - (intOf i).toNat)
    case atStart => exact ⟨0, Nat.zero_le _, rfl, by simp, HM⟩
    case round =>
      obtain ⟨j, hj, rfl, rfl, HM2⟩ := hrel
      have hgw : g < wr.heap.size := Nat.lt_of_lt_of_le l1 HM2.out.2.2.size
      by_cases hlt : j < n
      · have hi0 : (0 : Int) ≤ (j : Int) := Int.natCast_nonneg _
        have hi1 : (j : Int) < (n : Int) := by omega
        go_wp2_with fail
        refine (marktext_v (k + j) _ (by omega) (by omega)).mono ?_
        rintro e w1 ⟨rfl, hb⟩
        have HM3 := Lib.hid (HM2.out.call hgw hb)
        obtain ⟨u0, hu0, _⟩ := HM3.out.1 j hlt
        have hs0 := HM3.out.2.1 j
        clear hb HM2 HM
        go_wp2
        go_roundw
        case rel => exact ⟨j + 1, by omega, by go_num, by go_num, Lib.hid (HM3.out.put hlt)⟩
        case measure => simp [intOf]; omega
      · obtain rfl : j = n := by omega
        have HR := Lib.hid (show Marks S ((k + j : Nat) : Int) (fun w' => StrV j (fun i => mt (k + i)) w' S (.slice (some ⟨g, 0, none⟩) j cap)) w (.returned (.int .i64 ((k + j : Nat) : Int))) wr from
          ⟨rfl, ⟨fun x hx => by have := H1.out.1 x hx; have := HM2.out.2.2.size; omega, _, _, rfl, hcap, fun _ => ⟨g, rfl, hg, fun i hi => by obtain ⟨u, hu, e⟩ := HM2.out.1 i (by omega); rw [hu, e (by omega)], HM2.out.2.1⟩⟩, HM2.out.2.2.more (fun x hx => by rw [hx]; exact hg)⟩)
        go_wp2
        go_ret
        exact HR.out

set_option maxRecDepth 100000 in
set_option maxHeartbeats 1600000 in
theorem heldStr_v {n : Nat} {v : Value} {S : Nat → Prop} {w : World} {k : Nat} (hn : n ≤ 2097152) (hk0 : 1 ≤ k) (hk1 : k ≤ 1000000000) (h1 : StrV n (fun j => mt (k + j)) w S v) :
    Calls Tryz.prog 20 #[v, .int .i64 k] w fun e w' => e = .returned (.int .i64 ((k + n : Nat) : Int)) ∧ Below w.heap.size w w' := by
  refine h1.cases (fun a cap e0 e1 => ?_) (fun g cap hpos hcap e1 hg l1 hc1 hf1 => ?_)
  · subst e0 e1
    clear h1
    go_enter Tryz.func20, Tryz.ntmps20
    go_wp2
    go_loopw [5, 1] (fun i q wr => i = .int .i64 0 ∧ q = .int .i64 k ∧ wr = w) (fun i _ _ => 0)
    case atStart => exact ⟨rfl, rfl, rfl⟩
    case round =>
      obtain ⟨rfl, rfl, rfl⟩ := hrel
      go_wp2
      go_ret
      exact ⟨by simp, Below.refl _ _⟩
  · subst e1
    have H1 := Lib.hid hc1
    clear h1 hc1 hf1
    go_enter Tryz.func20, Tryz.ntmps20
    go_wp2
    go_loopw [5, 1] (fun i q wr => ∃ j : Nat, j ≤ n ∧ i = .int .i64 j ∧ q = .int .i64 ((k + j : Nat) : Int) ∧ Below w.heap.size w wr) (fun i _ _ => n - (intOf i).toNat)
    case atStart => exact ⟨0, Nat.zero_le _, rfl, by simp, Below.refl _ _⟩
    case round =>
      obtain ⟨j, hj, rfl, rfl, hb⟩ := hrel
      have HB := Lib.hid hb
      have hsz := hb.size
      by_cases hlt : j < n
      · have hc0 : wr.cell? ⟨g, j, none⟩ = some (.string (mt (k + j))) := (hb.cell (p := ⟨g, j, none⟩) l1).trans (H1.out j (by omega))
        have hgl : g < wr.heap.size := Nat.lt_of_lt_of_le l1 hsz
        have hi0 : (0 : Int) ≤ (j : Int) := Int.natCast_nonneg _
        have hi1 : (j : Int) < (n : Int) := by omega
        clear hb
        go_wp2_with fail
        refine wp_region_held_drew (S := (fun V => Below (wr).heap.size (wr) V)) (by kernel_rfl) ((Below.refl _ _).drew) (fun hHeld => ?_)
        refine tk 0 hHeld ?_
        refine tk 1 hHeld ?_
        refine tk 2 hHeld ?_
        refine tk 3 hHeld ?_ (hy := fun w hSw => by (try dsimp only at hSw); have k0 := (hSw.cell (p := ⟨g, j, none⟩) hgl).trans hc0; clear hSw; go_simp; try with_reducible rfl)
        refine tk 4 hHeld ?_
        refine rd1 5 (fun K hK => ?_)
        go_simp
        go_at_call 35
        refine (marktext_v (k + j) _ (by omega) (by omega)).mono ?_
        rintro e V1 ⟨rfl, hb⟩
        refine hK.out _ _ (hHeld.trans (hb.mono hHeld.size)) (fun hHeld => ?_)
        clear hK K hb
        refine tk 6 hHeld ?_
        refine rd0 ?_
        have HF := Lib.hid hHeld
        clear hHeld
        have HB2 := Lib.hid (HB.out.trans (HF.out.mono hsz))
        go_wp2
        go_roundw
        case rel => exact ⟨j + 1, by omega, by go_num, by go_num, HB2.out⟩
        case measure => simp [intOf]; omega
      · obtain rfl : j = n := by omega
        clear hb
        go_wp2
        go_ret
        exact ⟨rfl, HB.out⟩
end Go.Proofs.YtphklknaagjmpaaGreatDoor.StrC
