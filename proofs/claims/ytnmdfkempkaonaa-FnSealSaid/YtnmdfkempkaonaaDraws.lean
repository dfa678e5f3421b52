/- The model's draws (spec.l01Source and its methods n, one, bytes, edge): contracts: what they give lies within its bounds; which it is, no law asks. -/
import Derived.Test.YtnmdfkempkaonaaProg
import Derived.WalkKit
import Derived.ProofKit
import Derived.Below
import Derived.LoopTactic
import Derived.RegionTactic
import Derived.BigRegion
import Derived.BigQuiet
import Derived.Deep.QuietTactic
import Derived.WalkSpells
import Derived.WalkLawsBesides
import Derived.Lib.Hide
import Derived.OwnWalk
import Derived.OpenShut
import Derived.Laws.Bits64
import Derived.Laws.MakeOwn
namespace Go.Proofs.Ytnmdfkempkaonaa.DrawC
open Go.RowKit

/-- Every block but g is as it was; none has gone; nothing else has turned. -/
structure But (g : Nat) (w w' : World) : Prop where
  os : w'.os = w.os
  tape : w'.tape = w.tape
  output : w'.output = w.output
  size : w.heap.size ≤ w'.heap.size
  block : ∀ k, k < w.heap.size → k ≠ g → w'.heap[k]? = w.heap[k]?
theorem But.refl (g : Nat) (w : World) : But g w w := ⟨rfl, rfl, rfl, Nat.le_refl _, fun _ _ _ => rfl⟩
theorem But.trans {g : Nat} {a b c : World} (h : But g a b) (k : But g b c) : But g a c :=
  ⟨k.os.trans h.os, k.tape.trans h.tape, k.output.trans h.output, Nat.le_trans h.size k.size, fun i hi hg => (k.block i (Nat.lt_of_lt_of_le hi h.size) hg).trans (h.block i hi hg)⟩
theorem But.drew {g : Nat} {a w : World} (h : But g a w) : But g a w.drew := ⟨h.os, h.tape, h.output, h.size, h.block⟩
theorem But.alloc {g : Nat} {a w : World} (h : But g a w) (o : Obj) : But g a (w.alloc o) :=
  h.trans ⟨rfl, rfl, rfl, by simp, fun _ hk _ => Below.heap_alloc _ _ _ hk⟩
theorem But.setCell {g : Nat} {a w : World} (h : But g a w) (o : Nat) (u : Value) : But g a (w.setCell ⟨g, o, none⟩ u) :=
  h.trans ⟨rfl, rfl, rfl, by simp [World.setCell], fun _ _ hg => Below.heap_setCell _ _ _ _ hg⟩
theorem But.of_below {g : Nat} {a w w' : World} (h : But g a w) (k : Below w.heap.size w w') : But g a w' :=
  h.trans ⟨k.os, k.tape, k.output, k.size, fun i hi _ => k.block i hi⟩
theorem But.below {g B : Nat} {w w' : World} (h : But g w w') (hB : B ≤ w.heap.size) (hg : B ≤ g) : Below B w w' :=
  ⟨h.os, h.tape, h.output, h.size, fun k hk => h.block k (by omega) (by omega)⟩
theorem But.cell {g : Nat} {w w' : World} (h : But g w w') {p : Addr} (hp : p.block < w.heap.size) (hg : p.block ≠ g) : w'.cell? p = w.cell? p := World.cell?_of_block (w := w) (h.block p.block hp hg)
theorem But.frozen {g : Nat} {w w' : World} (h : But g w w') {p : Addr} (hp : p.block < w.heap.size) (hg : p.block ≠ g) : w'.frozen? p = w.frozen? p := World.frozen?_of_block (w := w) (h.block p.block hp hg)

/-- The bytes of a code lie before a world's block g. -/
def Code' (g : Nat) (w : World) (b : Option Addr) (len : Nat) : Prop := ∀ x, b = some x → ∀ i, i < len → (x.block < g ∧ ∃ c : Nat, c < 256 ∧ w.cell? (x.add i) = some (.int .u8 c))
/-- A source at block g, over len bytes at b. -/
structure Src (g : Nat) (b : Option Addr) (len cap : Nat) (w : World) : Prop where
  lt : g < w.heap.size
  len0 : len ≤ 1048576
  nil : b = none → len = 0
  code : Code' g w b len
  cells : ∃ (at' mix : Nat) (size : Int), at' ≤ len ∧ mix < 18446744073709551616 ∧ 0 ≤ size ∧ size ≤ 12 ∧ w.cell? ⟨g, 0, none⟩ = some (.slice b len cap) ∧ w.cell? ⟨g, 1, none⟩ = some (.int .i64 at') ∧ w.cell? ⟨g, 2, none⟩ = some (.int .u64 mix) ∧ w.cell? ⟨g, 3, none⟩ = some (.int .i64 size)
  soft : ∀ j, w.frozen? ⟨g, j, none⟩ = false

/-- what a draw of a number leaves -/
def Drawn (g : Nat) (b : Option Addr) (len cap : Nat) (most : Int) (w : World) (e : Ending) (w' : World) : Prop :=
  ∃ v : Int, e = .returned (.int .i64 v) ∧ 0 ≤ v ∧ (v < most ∨ v = 0) ∧ Src g b len cap w' ∧ But g w w'

theorem bits_bd (o : BinOp) (a b : Int) : 0 ≤ bits o .u64 a b ∧ bits o .u64 a b < 18446744073709551616 := by
  unfold bits
  simp only [IntKind.wrap_u64]
  omega

theorem But.drewN {g : Nat} {a w : World} (h : But g a w) (k : Nat) : But g a (w.drewN k) := ⟨h.os, h.tape, h.output, h.size, h.block⟩
/-- a world, put under one name -/
theorem gen_world {p : World → Prop} (W : World) (F : World → Prop) (hF : F W) (h : ∀ W1, F W1 → p W1) : p W := h W hF

/-- in the midst of a draw -/
structure Mid (g : Nat) (b : Option Addr) (len cap : Nat) (a : Int) (size : Int) (w W : World) : Prop where
  but : But g w W
  c0 : W.cell? ⟨g, 0, none⟩ = some (.slice b len cap)
  c1 : W.cell? ⟨g, 1, none⟩ = some (.int .i64 a)
  c2 : ∃ m : Nat, m < 18446744073709551616 ∧ W.cell? ⟨g, 2, none⟩ = some (.int .u64 m)
  c3 : W.cell? ⟨g, 3, none⟩ = some (.int .i64 size)
  soft : ∀ j, W.frozen? ⟨g, j, none⟩ = false

theorem Mid.mix {g : Nat} {b : Option Addr} {len cap : Nat} {a size : Int} {w W : World} (h : Mid g b len cap a size w W) {v : Int} (h0 : 0 ≤ v) (h1 : v < 18446744073709551616) :
    Mid g b len cap a size w ((W.setCell ⟨g, 2, none⟩ (.int .u64 v)).drew) := by
  obtain ⟨m, _, c2⟩ := h.c2
  refine ⟨(h.but.setCell 2 _).drew, ?_, ?_, ⟨v.toNat, by omega, ?_⟩, ?_, fun j => ?_⟩
  · simp [go_sem, h.c0]
  · simp [go_sem, h.c1]
  · rw [show ((v.toNat : Nat) : Int) = v by omega]; simp [go_sem, c2]
  · simp [go_sem, h.c3]
  · simpa using h.soft j
theorem Mid.count {g : Nat} {b : Option Addr} {len cap : Nat} {a size : Int} {w W : World} (h : Mid g b len cap a size w W) (a2 : Int) :
    Mid g b len cap a2 size w (W.setCell ⟨g, 1, none⟩ (.int .i64 a2)) := by
  obtain ⟨m, hm, c2⟩ := h.c2
  refine ⟨h.but.setCell 1 _, ?_, ?_, ⟨m, hm, ?_⟩, ?_, fun j => ?_⟩
  · simp [go_sem, h.c0]
  · simp [go_sem, h.c1]
  · simp [go_sem, c2]
  · simp [go_sem, h.c3]
  · simpa using h.soft j
theorem Mid.drewN {g : Nat} {b : Option Addr} {len cap : Nat} {a size : Int} {w W : World} (h : Mid g b len cap a size w W) (k : Nat) : Mid g b len cap a size w (W.drewN k) :=
  ⟨h.but.drewN k, by simpa using h.c0, by simpa using h.c1, by simpa using h.c2, by simpa using h.c3, fun j => by simpa using h.soft j⟩
theorem Mid.src {g : Nat} {b : Option Addr} {len cap : Nat} {a : Nat} {size : Int} {w W : World} (h : Mid g b len cap a size w W) (hs : Src g b len cap w) (ha : a ≤ len) (s0 : 0 ≤ size) (s1 : size ≤ 12) : Src g b len cap W := by
  obtain ⟨m, hm, c2⟩ := h.c2
  refine ⟨Nat.lt_of_lt_of_le hs.lt h.but.size, hs.len0, hs.nil, fun x hx => ?_, ⟨a, m, size, ha, hm, s0, s1, h.c0, h.c1, c2, h.c3⟩, h.soft⟩
  intro i hi
  obtain ⟨hg, c, hc, e⟩ := hs.code x hx i hi
  refine ⟨hg, ?_⟩
  have hb : (x.add i).block = x.block := by cases i <;> simp [Addr.add]
  exact ⟨c, hc, (h.but.cell (p := x.add i) (by rw [hb]; exact Nat.lt_trans hg hs.lt) (by rw [hb]; omega)).trans e⟩

theorem rem_bd (X : Int) {most : Int} (hm : 1 < most) (hm2 : most ≤ 9223372036854775807) : 0 ≤ wrap64 (X % most) ∧ wrap64 (X % most) < most := by
  have h1 := Int.emod_nonneg X (show most ≠ 0 by omega)
  have h2 := Int.emod_lt_of_pos X (show 0 < most by omega)
  unfold wrap64
  omega

set_option maxRecDepth 100000 in
set_option maxHeartbeats 1000000 in
theorem n_more (g : Nat) (b : Option Addr) (len cap : Nat) (most : Int) (w : World) (h : Src g b len cap w) (hm : 1 < most) (hm2 : most ≤ 9223372036854775807) :
    Calls Try.prog 19 #[.pointer (some ⟨g, 0, none⟩), .int .i64 most] w (Drawn g b len cap most w) := by
  have HS := Lib.hid h
  obtain ⟨hlt, hlen, hnil, hcode, ⟨at', mix, size, hat, hmix, hs0, hs1, c0, c1, c2, c3⟩, hf⟩ := h
  have HM : Hid (Mid g b len cap at' size w w) := Lib.hid ⟨But.refl _ _, c0, c1, ⟨mix, hmix, c2⟩, c3, hf⟩
  have f1 := hf 1
  have f2 := hf 2
  have HC := Lib.hid hcode
  by_cases ha : at' < len
  · obtain ⟨x, rfl⟩ : ∃ x, b = some x := by
      cases b with
      | none => have := hnil rfl; omega
      | some x => exact ⟨x, rfl⟩
    obtain ⟨hxg, c, hc, hrow⟩ := HC.out x rfl at' ha
    clear hf hcode hnil
    go_enter Try.func19, Try.ntmps19
    go_wp2
    go_quiet (fail)
    go_wp2
    go_quiet (fail)
    go_wp2
    refine gen_world (p := fun W => Code.wp _ _ _ _ W) _ (Mid g (some x) len cap (at' + 1 : Nat) size w) ((HM.out.drewN _).count _) ?_
    rintro W ⟨hb1, d0, d1, ⟨m, hm1, d2⟩, d3, e⟩
    have HM2 : Hid (Mid g (some x) len cap (at' + 1 : Nat) size w W) := Lib.hid ⟨hb1, d0, d1, ⟨m, hm1, d2⟩, d3, e⟩
    have f1 := e 1
    have f2 := e 2
    clear hb1 e c0 c1 c2 c3
    go_region
    refine gen_world (p := fun W => Exit.then _ _ Exit.normal _ W) _ (Mid g (some x) len cap (at' + 1 : Nat) size w) (HM2.out.mix (bits_bd _ _ _).1 (bits_bd _ _ _).2) ?_
    clear HM2 d0 d1 d2 d3 f1 f2
    rintro W ⟨hb1, d0, d1, ⟨m, hm1, d2⟩, d3, e⟩
    have HM2 : Hid (Mid g (some x) len cap (at' + 1 : Nat) size w W) := Lib.hid ⟨hb1, d0, d1, ⟨m, hm1, d2⟩, d3, e⟩
    have f1 := e 1
    have f2 := e 2
    clear hb1 e
    go_wp2
    go_region
    refine gen_world (p := fun W => Exit.then _ _ Exit.normal _ W) _ (Mid g (some x) len cap (at' + 1 : Nat) size w) (HM2.out.mix (bits_bd _ _ _).1 (bits_bd _ _ _).2) ?_
    clear HM2 d0 d1 d2 d3 f1 f2
    rintro W ⟨hb1, d0, d1, ⟨m, hm1, d2⟩, d3, e⟩
    have HM2 : Hid (Mid g (some x) len cap (at' + 1 : Nat) size w W) := Lib.hid ⟨hb1, d0, d1, ⟨m, hm1, d2⟩, d3, e⟩
    have f1 := e 1
    have f2 := e 2
    clear hb1 e
    go_wp2
    go_region
    refine gen_world (p := fun W => Exit.then _ _ Exit.normal _ W) _ (Mid g (some x) len cap (at' + 1 : Nat) size w) (HM2.out.mix (bits_bd _ _ _).1 (bits_bd _ _ _).2) ?_
    clear HM2 d0 d1 d2 d3 f1 f2
    rintro W ⟨hb1, d0, d1, ⟨m, hm1, d2⟩, d3, e⟩
    have HM2 : Hid (Mid g (some x) len cap (at' + 1 : Nat) size w W) := Lib.hid ⟨hb1, d0, d1, ⟨m, hm1, d2⟩, d3, e⟩
    clear hb1 e
    go_wp2
    go_ret
    unfold Drawn
    exact ⟨_, rfl, (rem_bd _ hm hm2).1, .inl (rem_bd _ hm hm2).2, HM2.out.src HS.out (by omega) hs0 hs1, HM2.out.but⟩
  · clear hf hcode hnil
    go_enter Try.func19, Try.ntmps19
    go_wp2
    go_quiet (fail)
    go_wp2
    refine gen_world (p := fun W => Code.wp _ _ _ _ W) _ (Mid g b len cap at' size w) (HM.out.drewN _) ?_
    rintro W ⟨hb1, d0, d1, ⟨m, hm1, d2⟩, d3, e⟩
    have HM2 : Hid (Mid g b len cap at' size w W) := Lib.hid ⟨hb1, d0, d1, ⟨m, hm1, d2⟩, d3, e⟩
    have f1 := e 1
    have f2 := e 2
    clear hb1 e c0 c1 c2 c3
    go_region
    refine gen_world (p := fun W => Exit.then _ _ Exit.normal _ W) _ (Mid g b len cap at' size w) (HM2.out.mix (bits_bd _ _ _).1 (bits_bd _ _ _).2) ?_
    clear HM2 d0 d1 d2 d3 f1 f2
    rintro W ⟨hb1, d0, d1, ⟨m, hm1, d2⟩, d3, e⟩
    have HM2 : Hid (Mid g b len cap at' size w W) := Lib.hid ⟨hb1, d0, d1, ⟨m, hm1, d2⟩, d3, e⟩
    have f1 := e 1
    have f2 := e 2
    clear hb1 e
    go_wp2
    go_region
    refine gen_world (p := fun W => Exit.then _ _ Exit.normal _ W) _ (Mid g b len cap at' size w) (HM2.out.mix (bits_bd _ _ _).1 (bits_bd _ _ _).2) ?_
    clear HM2 d0 d1 d2 d3 f1 f2
    rintro W ⟨hb1, d0, d1, ⟨m, hm1, d2⟩, d3, e⟩
    have HM2 : Hid (Mid g b len cap at' size w W) := Lib.hid ⟨hb1, d0, d1, ⟨m, hm1, d2⟩, d3, e⟩
    have f1 := e 1
    have f2 := e 2
    clear hb1 e
    go_wp2
    go_region
    refine gen_world (p := fun W => Exit.then _ _ Exit.normal _ W) _ (Mid g b len cap at' size w) (HM2.out.mix (bits_bd _ _ _).1 (bits_bd _ _ _).2) ?_
    clear HM2 d0 d1 d2 d3 f1 f2
    rintro W ⟨hb1, d0, d1, ⟨m, hm1, d2⟩, d3, e⟩
    have HM2 : Hid (Mid g b len cap at' size w W) := Lib.hid ⟨hb1, d0, d1, ⟨m, hm1, d2⟩, d3, e⟩
    clear hb1 e
    go_wp2
    go_ret
    unfold Drawn
    exact ⟨_, rfl, (rem_bd _ hm hm2).1, .inl (rem_bd _ hm hm2).2, HM2.out.src HS.out (by omega) hs0 hs1, HM2.out.but⟩

theorem n_any (g : Nat) (b : Option Addr) (len cap : Nat) (most : Int) (w : World) (h : Src g b len cap w) (hm2 : most ≤ 9223372036854775807) :
    Calls Try.prog 19 #[.pointer (some ⟨g, 0, none⟩), .int .i64 most] w (Drawn g b len cap most w) := by
  by_cases hm : 1 < most
  · exact n_more g b len cap most w h hm hm2
  · have HS := Lib.hid h
    clear h
    go_enter Try.func19, Try.ntmps19
    go_wp2
    go_ret
    unfold Drawn
    exact ⟨0, rfl, by omega, .inr rfl, HS.out, But.refl _ _⟩

/-- what a draw of a yes or no leaves -/
def DrawnB (g : Nat) (b : Option Addr) (len cap : Nat) (w : World) (e : Ending) (w' : World) : Prop :=
  ∃ v : Bool, e = .returned (.bool v) ∧ Src g b len cap w' ∧ But g w w'

theorem one_any (g : Nat) (b : Option Addr) (len cap : Nat) (most : Int) (w : World) (h : Src g b len cap w) (hm2 : most ≤ 9223372036854775807) :
    Calls Try.prog 18 #[.pointer (some ⟨g, 0, none⟩), .int .i64 most] w (DrawnB g b len cap w) := by
  have HS := Lib.hid h
  clear h
  go_enter Try.func18, Try.ntmps18
  go_wp2_with fail
  refine (n_any g b len cap most _ HS.out hm2).mono ?_
  rintro e w1 ⟨v, rfl, h0, h1, hs, hb⟩
  have HR : Hid (Src g b len cap w1 ∧ But g w w1) := Lib.hid ⟨hs, hb⟩
  clear hs hb
  go_wp2
  go_ret
  unfold DrawnB
  exact ⟨_, rfl, HR.out⟩

/-- what a draw of any number leaves -/
def DrawnI (g : Nat) (b : Option Addr) (len cap : Nat) (w : World) (e : Ending) (w' : World) : Prop :=
  ∃ v : Int, e = .returned (.int .i64 v) ∧ -9223372036854775808 ≤ v ∧ v ≤ 9223372036854775807 ∧ Src g b len cap w' ∧ But g w w'
theorem tab_get {k : Nat} (h : k < 14) : ∃ z : Int, (-9223372036854775808 ≤ z ∧ z ≤ 9223372036854775807) ∧ (#[.int .i64 0, .int .i64 1, .int .i64 (-1), .int .i64 2, .int .i64 1000, .int .i64 1001, .int .i64 2147483648, .int .i64 2147483647, .int .i64 (-2147483648), .int .i64 4611686018427387904, .int .i64 9223372036854775807, .int .i64 (-9223372036854775808), .int .i64 1000000, .int .i64 1000001] : Array Value)[k]? = some (.int .i64 z) := by
  have : k = 0 ∨ k = 1 ∨ k = 2 ∨ k = 3 ∨ k = 4 ∨ k = 5 ∨ k = 6 ∨ k = 7 ∨ k = 8 ∨ k = 9 ∨ k = 10 ∨ k = 11 ∨ k = 12 ∨ k = 13 := by omega
  rcases this with rfl | rfl | rfl | rfl | rfl | rfl | rfl | rfl | rfl | rfl | rfl | rfl | rfl | rfl
  all_goals exact ⟨_, ⟨by decide, by decide⟩, rfl⟩
/-- A source stands where nothing up to its block has turned. -/
theorem Src.mono {g : Nat} {b : Option Addr} {len cap : Nat} {w w' : World} (h : Src g b len cap w) (hb : Below (g + 1) w w') : Src g b len cap w' := by
  obtain ⟨a, m, s, h1, h2, h3, h4, c0, c1, c2, c3⟩ := h.cells
  refine ⟨Nat.lt_of_lt_of_le h.lt hb.size, h.len0, h.nil, fun x hx => ?_, ⟨a, m, s, h1, h2, h3, h4, (hb.cell (p := ⟨g, 0, none⟩) (Nat.lt_succ_self _)).trans c0, (hb.cell (p := ⟨g, 1, none⟩) (Nat.lt_succ_self _)).trans c1, (hb.cell (p := ⟨g, 2, none⟩) (Nat.lt_succ_self _)).trans c2, (hb.cell (p := ⟨g, 3, none⟩) (Nat.lt_succ_self _)).trans c3⟩, fun j => (hb.frozen (p := ⟨g, j, none⟩) (Nat.lt_succ_self _)).trans (h.soft j)⟩
  intro i hi
  obtain ⟨hg, c, hc, e⟩ := h.code x hx i hi
  refine ⟨hg, ?_⟩
  have hx' : (x.add i).block = x.block := by cases i <;> simp [Addr.add]
  exact ⟨c, hc, (hb.cell (p := x.add i) (by rw [hx']; omega)).trans e⟩
theorem Src.alloc {g : Nat} {b : Option Addr} {len cap : Nat} {w : World} (h : Src g b len cap w) (o : Obj) : Src g b len cap (w.alloc o) :=
  h.mono ((Below.refl _ _).alloc h.lt _)

theorem edge_any (g : Nat) (b : Option Addr) (len cap : Nat) (w : World) (h : Src g b len cap w) :
    Calls Try.prog 26 #[.pointer (some ⟨g, 0, none⟩)] w (DrawnI g b len cap w) := by
  have HS := Lib.hid h
  clear h
  go_enter Try.func26, Try.ntmps26
  go_wp2_with fail
  refine (n_any g b len cap _ _ (HS.out.alloc _) (by omega)).mono ?_
  rintro e w1 ⟨v, rfl, h0, h1, hs, hb⟩
  obtain ⟨k, rfl⟩ := Int.eq_ofNat_of_zero_le h0
  have hk : k < 14 := by omega
  obtain ⟨z, hzb, hz⟩ := tab_get hk
  have hg := HS.out.lt
  have hc := hb.cell (p := ⟨w.heap.size, k, none⟩) (by simp) (show w.heap.size ≠ g by omega)
  have hc2 : w1.cell? ⟨w.heap.size, k, none⟩ = some (.int .i64 z) := by
    rw [hc, World.cell?_alloc_new]
    exact hz
  have HR : Hid (Src g b len cap w1 ∧ But g w w1) := Lib.hid ⟨hs, ((But.refl _ _).alloc _).trans hb⟩
  clear hs hb h0 h1 hz hc
  go_wp2
  go_ret
  unfold DrawnI
  exact ⟨_, rfl, hzb.1, hzb.2, HR.out⟩

/-- what making a source leaves -/
def Made (b : Option Addr) (len cap : Nat) (w : World) (e : Ending) (w' : World) : Prop :=
  e = .returned (.pointer (some ⟨w.heap.size, 0, none⟩)) ∧ Src w.heap.size b len cap w' ∧ Below w.heap.size w w'
/-- The bytes of a code that came in. -/
def CodeIn (w : World) (b : Option Addr) (len : Nat) : Prop := (b = none → len = 0) ∧ ∀ x, b = some x → ∀ i, i < len → (x.block < w.heap.size ∧ ∃ c : Nat, c < 256 ∧ w.cell? (x.add i) = some (.int .u8 c))

theorem Mid.size {g : Nat} {b : Option Addr} {len cap : Nat} {a size : Int} {w W : World} (h : Mid g b len cap a size w W) (s2 : Int) :
    Mid g b len cap a s2 w (W.setCell ⟨g, 3, none⟩ (.int .i64 s2)) := by
  obtain ⟨m, hm, c2⟩ := h.c2
  refine ⟨h.but.setCell 3 _, ?_, ?_, ⟨m, hm, ?_⟩, ?_, fun j => ?_⟩
  · simp [go_sem, h.c0]
  · simp [go_sem, h.c1]
  · simp [go_sem, c2]
  · simp [go_sem, h.c3]
  · simpa using h.soft j
theorem wrap_bd (x : Int) : 0 ≤ IntKind.u64.wrap x ∧ IntKind.u64.wrap x < 18446744073709551616 := by simp only [IntKind.wrap_u64]; omega
theorem CodeIn.at {w : World} {x : Addr} {len i : Nat} (h : CodeIn w (some x) len) (hi : i < len) {o : Obj} {W : World} (hb : But w.heap.size (w.alloc o) W) : ∃ c : Nat, c < 256 ∧ W.cell? (x.add i) = some (.int .u8 c) := by
  obtain ⟨hx, c, hc, e⟩ := h.2 x rfl i hi
  have hx' : (x.add i).block = x.block := by cases i <;> simp [Addr.add]
  exact ⟨c, hc, ((hb.cell (p := x.add i) (by rw [hx']; simp; omega) (by rw [hx']; omega)).trans (World.cell?_alloc_lt _ _ _ (by rw [hx']; exact hx))).trans e⟩
theorem Mid.made {b : Option Addr} {len cap a : Nat} {size : Int} {w W : World} {o : Obj} (h : Mid w.heap.size b len cap a size (w.alloc o) W) (hc : CodeIn w b len) (hl : len ≤ 1048576) (ha : a ≤ len) (s0 : 0 ≤ size) (s1 : size ≤ 12) :
    Src w.heap.size b len cap W ∧ Below w.heap.size w W := by
  obtain ⟨m, hm, c2⟩ := h.c2
  refine ⟨⟨Nat.lt_of_lt_of_le (by simp) h.but.size, hl, hc.1, fun x hx => ?_, ⟨a, m, size, ha, hm, s0, s1, h.c0, h.c1, c2, h.c3⟩, h.soft⟩, ((Below.refl _ _).alloc (Nat.le_refl _) o).trans (h.but.below (by simp) (Nat.le_refl _))⟩
  subst hx
  exact fun i hi => ⟨(hc.2 x rfl i hi).1, hc.at hi h.but⟩

set_option maxRecDepth 100000 in
theorem source_any (b : Option Addr) (len cap : Nat) (w : World) (hlen : len ≤ 1048576) (h : CodeIn w b len) :
    Calls Try.prog 17 #[.slice b len cap] w (Made b len cap w) := by
  have HC := Lib.hid h
  have hn := h.1
  clear h
  go_enter Try.func17, Try.ntmps17
  go_wp2
  go_loopw [4] (fun i w1 => ∃ k : Nat, k ≤ len ∧ k ≤ 64 ∧ i = .int .i64 k ∧ Mid w.heap.size b len cap 0 0 (w.alloc (.cells #[.slice b len cap, .int .i64 0, .int .u64 88172645463325252, .int .i64 0] 47)) w1) (fun i _ => 64 - (intOf i).toNat)
  case atStart =>
    exact ⟨0, by omega, by omega, rfl, But.refl _ _, by simp, by simp, ⟨88172645463325252, by omega, by simp⟩, by simp, fun j => by simp⟩
  case round =>
    obtain ⟨k, hk, hk64, rfl, hm⟩ := hrel
    have HM := Lib.hid hm
    by_cases hlt : k < len ∧ k < 64
    · obtain ⟨h1, h2⟩ := hlt
      obtain ⟨x, rfl⟩ : ∃ x, b = some x := by
        cases b with
        | none => have := hn rfl; omega
        | some x => exact ⟨x, rfl⟩
      obtain ⟨c, hc, hcell⟩ := HC.out.at h1 hm.but
      obtain ⟨hb1, d0, d1, ⟨m, hm1, d2⟩, d3, e⟩ := hm
      have f2 := e 2
      clear hb1 e hn
      go_wp2
      go_region
      all_goals go_wp2
      go_roundw
      case rel => exact ⟨k + 1, by omega, by omega, by go_num, HM.out.mix (wrap_bd _).1 (wrap_bd _).2⟩
      case measure => simp [intOf]; omega
    · obtain ⟨hb1, d0, d1, ⟨m, hm1, d2⟩, d3, e⟩ := hm
      have f3 := e 3
      clear hb1 e hn
      by_cases h3 : (len : Int) / 20 ≤ 12
      · go_wp2
        all_goals
          go_ret
          unfold Made
          exact ⟨rfl, (HM.out.size _).made (a := 0) HC.out hlen (Nat.zero_le _) (by omega) (by omega)⟩
      · go_wp2
        all_goals
          go_ret
          unfold Made
          exact ⟨rfl, ((HM.out.size _).size _).made (a := 0) HC.out hlen (Nat.zero_le _) (by omega) (by omega)⟩

theorem info_u8 : (Try.prog.info? 5).map (fun i => (i.zero, i.size, i.bytes)) = some (some (.int .u8 0), 1, 1) := by kernel_rfl
theorem ret_str {a b : ByteArray} (h : a = b) : Ending.returned (.string a) = .returned (.string b) := by rw [h]
def bytesOf (l : List UInt8) : ByteArray := ⟨l.toArray⟩
theorem ownsRow_but {w w' : World} {g base : Nat} {e : TypeId} {size : Nat} {v : Value} {n : Nat} {xs : List Value} (h : w.ownsRow base e size v n xs) (hb : But g w w') (hg : g < base) : w'.ownsRow base e size v n xs := by
  obtain ⟨hl, h | ⟨k, cap, cur, hv, hk, hc, r⟩⟩ := h
  · exact ⟨hl, .inl h⟩
  · have hlt : k < w.heap.size := by
      rcases Nat.lt_or_ge k w.heap.size with h | h
      · exact h
      · rw [Array.getElem?_eq_none h] at hc; cases hc
    exact ⟨hl, .inr ⟨k, cap, cur, hv, hk, (hb.block k hlt (by omega)).trans hc, r⟩⟩
theorem conv_nil (w : World) : (convert 22 9 (.slice none 0 0)).run Try.prog w = .ok (.string { data := #[] }) w := by kernel_rfl
theorem conv_of_own {B : Nat} {w : World} {v : Value} {l : List UInt8} (h : w.ownsRow B 5 1 v l.length (l.map fun c => Value.int .u8 (c.toNat : Int))) :
    (convert 22 9 v).run Try.prog w = .ok (.string (bytesOf l)) w := by
  have hc := fun g hg j u hj => World.ownsRow.cells h (g := g) hg j u hj
  rcases h with ⟨_, ⟨rfl, hn⟩ | ⟨g, cap, cur, rfl, _⟩⟩
  · obtain rfl := List.length_eq_zero_iff.1 hn
    exact conv_nil w
  · exact run_convert_bytes_back w 22 9 5 ⟨g, 0, none⟩ cap l Try.underlying22 Try.underlying5 Try.underlying9 (fun j hj => hc g rfl j _ (by simp [List.getElem?_eq_getElem hj]))
theorem one_map (l : List UInt8) (c : UInt8) : (l.map fun c => Value.int .u8 (c.toNat : Int)) ++ [Value.int .u8 (c.toNat : Int)] = (l ++ [c]).map fun c => Value.int .u8 (c.toNat : Int) := by simp
theorem But.grown {g : Nat} {a w w' : World} {row : Option Nat} (h : But g a w) (hg : w.grownBy w' row) (hr : ∀ k, row = some k → a.heap.size ≤ k) : But g a w' :=
  ⟨hg.os.trans h.os, hg.tape.trans h.tape, hg.output.trans h.output, Nat.le_trans h.size hg.size, fun k hk hkg => (hg.block k (Nat.lt_of_lt_of_le hk h.size) (fun e => by have := hr k e.symm; omega)).trans (h.block k hk hkg)⟩
theorem Src.grown {g : Nat} {b : Option Addr} {len cap : Nat} {w w' : World} {row : Option Nat} (h : Src g b len cap w) (hg : w.grownBy w' row) (hr : ∀ k, row = some k → g < k) : Src g b len cap w' :=
  h.mono ((Below.refl _ _).grown hg h.lt (fun k hk => hr k hk))
theorem u8_of (v : Int) (h0 : 0 ≤ v) (h1 : v < 256) : ∃ c : UInt8, v = (c.toNat : Int) := ⟨UInt8.ofNat v.toNat, by rw [UInt8.toNat_ofNat']; omega⟩
theorem wrap_u8 (c : UInt8) : IntKind.u8.wrap (c.toNat : Int) = (c.toNat : Int) := by
  have := c.toNat_lt
  simp only [IntKind.wrap, IntKind.bits, IntKind.signed]
  simp
  omega
theorem cell_one_new (w : World) (v : Value) (t : TypeId) : ∀ j u, [v][j]? = some u → (w.alloc (.cells #[v] t)).cell? ((⟨w.heap.size, 0, none⟩ : Addr).add j) = some u := by
  intro j u hj
  match j, hj with
  | 0, hj => simp at hj; subst hj; simp [Addr.add]

/-- what a draw of bytes leaves -/
def DrawnS (g : Nat) (b : Option Addr) (len cap : Nat) (n : Int) (w : World) (e : Ending) (w' : World) : Prop :=
  ∃ t : ByteArray, e = .returned (.string t) ∧ (t.size : Int) = n ∧ Src g b len cap w' ∧ But g w w'

set_option maxRecDepth 100000 in
set_option maxHeartbeats 800000 in
theorem bytes_any (g : Nat) (b : Option Addr) (len cap : Nat) (n : Int) (w : World) (h : Src g b len cap w) (h0 : 0 ≤ n) (h1 : n ≤ 1048576) :
    Calls Try.prog 20 #[.pointer (some ⟨g, 0, none⟩), .int .i64 n] w (DrawnS g b len cap n w) := by
  have HS := Lib.hid h
  have hgw := h.lt
  clear h
  obtain ⟨i0, hi, hz0, hz1, hz2⟩ := info_parts info_u8
  have H0 := Lib.hid hi
  have H1 := Lib.hid hz0
  have H2 := Lib.hid hz1
  have H3 := Lib.hid hz2
  clear hi hz0 hz1 hz2
  go_enter Try.func20, Try.ntmps20
  go_wp2
  go_loopw [5, 6] (fun v i wr => ∃ l : List UInt8, (l.length : Int) ≤ n ∧ i = .int .i64 l.length ∧ wr.ownsRow w.heap.size 5 1 v l.length (l.map fun c => .int .u8 (c.toNat : Int)) ∧ Src g b len cap wr ∧ But g w wr) (fun _ i _ => (n - intOf i).toNat)
  case atStart => exact ⟨[], by simpa using h0, rfl, World.ownsRow_made _ _ _ (Nat.le_refl _) (by decide) (by simp), HS.out.alloc _, (But.refl _ _).alloc _⟩
  case round =>
    obtain ⟨l, hl, rfl, hown, hs, hb⟩ := hrel
    have HO := Lib.hid hown
    have HR : Hid (Src g b len cap wr ∧ But g w wr) := Lib.hid ⟨hs, hb⟩
    have hsz := hb.size
    clear hown hs hb
    by_cases hlt : (l.length : Int) < n
    · go_wp2_with fail
      refine (n_any g b len cap _ _ HR.out.1 (by omega)).mono ?_
      rintro e w1 ⟨v, rfl, v0, v1, hs2, hb2⟩
      obtain ⟨c, rfl⟩ := u8_of v v0 (by omega)
      have HO2 := Lib.hid (ownsRow_but HO.out hb2 hgw)
      have HR2 : Hid (Src g b len cap w1 ∧ But g w w1) := Lib.hid ⟨hs2, HR.out.2.trans hb2⟩
      have hsz2 : w.heap.size ≤ w1.heap.size := Nat.le_trans hsz hb2.size
      have hw8 := wrap_u8 c
      clear hs2 hb2 v0 v1
      go_wp2_with (at_builtin; refine wpList_append_own _ rfl _ _ 22 rfl w.heap.size 5 i0 (.int .u8 0) 1 1 Try.underlying22 H0.out H1.out H2.out H3.out rfl (by decide) _ _ _ rfl (World.ownsRow.alloc HO2.out _) ⟨w1.heap.size, 0, none⟩ 1 1 [_] rfl rfl (cell_one_new _ _ _) ?c1 ?c2 ?c3 ?c4 ?_)
      case c1 => intro x hx; simp at hx; subst hx; rfl
      case c2 => unfold maxLen; omega
      case c3 => omega
      case c4 => simp; omega
      · intro v' w2 hown' hgrow _
        have hlt' := fun k hk => (World.ownsRow.lt HO2.out k hk).1
        have hB : Src g b len cap w2 ∧ But g w w2 := ⟨(HR2.out.1.alloc _).grown hgrow (fun k hk => Nat.lt_of_lt_of_le hgw (hlt' k hk)), (HR2.out.2.alloc _).grown hgrow hlt'⟩
        rw [one_map] at hown'
        have hl2 : (l ++ [c]).length = l.length + 1 := by simp
        rw [← hl2] at hown'
        have HB := Lib.hid hB
        have HW := Lib.hid hown'
        clear hown' hgrow hB hl2 hlt'
        go_wp2
        go_roundw
        case rel => exact ⟨l ++ [c], by rw [List.length_append, List.length_singleton]; omega, by rw [show ((l ++ [c]).length : Int) = (l.length : Int) + 1 by rw [List.length_append, List.length_singleton]; omega], HW.out, HB.out⟩
        case measure => simp [intOf]; omega
    · have hconv := conv_of_own HO.out
      have hn : n = l.length := by omega
      have HN := Lib.hid hn
      clear hn
      go_wp2
      go_ret
      unfold DrawnS
      exact ⟨_, rfl, by rw [HN.out]; rfl, HR.out⟩
/-- the bytes of a code can be read -/
def Reads (w : World) (b : Option Addr) (len : Nat) : Prop := (b = none → len = 0) ∧ ∀ x, b = some x → ∀ i, i < len → ∃ c : Nat, c < 256 ∧ w.cell? (x.add i) = some (.int .u8 c)
theorem Reads.of {w : World} {b : Option Addr} {len : Nat} (h : CodeIn w b len) : Reads w b len := ⟨h.1, fun x hx i hi => (h.2 x hx i hi).2⟩
theorem CodeIn.below {w w' : World} {b : Option Addr} {len : Nat} (h : CodeIn w b len) (hb : Below w.heap.size w w') : CodeIn w' b len := by
  refine ⟨h.1, fun x hx i hi => ?_⟩
  obtain ⟨hl, c, hc, e⟩ := h.2 x hx i hi
  refine ⟨Nat.lt_of_lt_of_le hl hb.size, ?_⟩
  have hx' : (x.add i).block = x.block := by cases i <;> simp [Addr.add]
  exact ⟨c, hc, (hb.cell (p := x.add i) (by rw [hx']; exact hl)).trans e⟩

/-- what lwAt gives -/
def LwAt (most : Int) (w : World) (e : Ending) (w' : World) : Prop := ∃ v : Int, e = .returned (.int .i64 v) ∧ 0 ≤ v ∧ (v < most ∨ v = 0) ∧ w = w'
theorem at_any (b : Option Addr) (len cap : Nat) (k : Nat) (most : Int) (w : World) (h : Reads w b len) (hl : len ≤ 1048576) (hk : k ≤ 1000) (hm : most ≤ 9223372036854775807) :
    Calls Try.prog 9 #[.slice b len cap, .int .i64 k, .int .i64 most] w (LwAt most w) := by
  by_cases hm1 : most ≤ 1
  · go_enter Try.func9, Try.ntmps9
    go_wp2
    go_ret
    unfold LwAt
    exact ⟨0, rfl, by omega, .inr rfl, rfl⟩
  · by_cases hz : len = 0
    · have hzi : ((len : Int) == 0) = true := by simp [hz]
      go_enter Try.func9, Try.ntmps9
      go_wp2
      go_ret
      unfold LwAt
      exact ⟨0, rfl, by omega, .inr rfl, rfl⟩
    · obtain ⟨x, rfl⟩ : ∃ x, b = some x := by
        cases b with
        | none => exact absurd (h.1 rfl) hz
        | some x => exact ⟨x, rfl⟩
      have hzi : ((len : Int) == 0) = false := by simp [hz]
      obtain ⟨c, hc, hcell⟩ := h.2 x rfl (k % len) (Nat.mod_lt _ (by omega))
      have hmod : ((k : Int) % len) = ((k % len : Nat) : Int) := by simp
      have hlt : k % len < len := Nat.mod_lt _ (by omega)
      generalize k % len = j at *
      clear h
      go_enter Try.func9, Try.ntmps9
      go_wp2
      go_ret
      unfold LwAt
      have h1 := Int.emod_nonneg (c : Int) (show most ≠ 0 by omega)
      have h2 := Int.emod_lt_of_pos (c : Int) (show 0 < most by omega)
      exact ⟨_, rfl, h1, .inl h2, rfl⟩
/-- an argument that reads as a row of bytes -/
theorem CodeIn.of_row {w : World} {a : Option Addr} {len cap : Nat} {zs : List Int}
    (h : (a = none ∧ len = 0 ∧ cap = 0 ∧ zs = []) ∨ ∃ x, a = some x ∧ len ≤ cap ∧ cap ≤ maxLen ∧ zs.length = cap ∧ (∀ i, i < zs.length → w.cell? (x.add i) = some (.int .u8 (zs.getD i 0))) ∧ ∀ n ∈ zs, (Lit.int .u8 n).wf = true) : CodeIn w a len ∧ len ≤ maxLen := by
  rcases h with ⟨rfl, rfl, rfl, rfl⟩ | ⟨x, rfl, hl, hm, hz, hc, hw⟩
  · exact ⟨⟨fun _ => rfl, fun x hx => (by cases hx)⟩, by unfold maxLen; omega⟩
  · refine ⟨⟨fun hx => (by cases hx), fun y hy i hi => ?_⟩, Nat.le_trans hl hm⟩
    obtain rfl := Option.some.inj hy
    have hi' : i < zs.length := by omega
    have hcell := hc i hi'
    have hx' : (x.add i).block = x.block := by cases i <;> simp [Addr.add]
    have hwf := hw (zs.getD i 0) (by rw [List.getD, List.getElem?_eq_getElem hi']; exact List.getElem_mem hi')
    generalize zs.getD i 0 = n at hwf hcell
    simp [Lit.wf, IntKind.min, IntKind.max, IntKind.signed, IntKind.bits] at hwf
    refine ⟨hx' ▸ World.block_lt_of_cell? w _ hcell, n.toNat, by omega, ?_⟩
    rw [hcell, show ((n.toNat : Nat) : Int) = n by omega]
/-- string(make([]byte, n)) -/
theorem zero_text (w : World) (n : Int) (h0 : 0 ≤ n) (h1 : n ≤ 1000000) :
    ∃ w1, (Instr.makeSlice 22 (.int .i64 n) (.int .i64 n)).run Try.prog w = .ok (.slice (some ⟨w.heap.size, 0, none⟩) n.toNat n.toNat) w1 ∧
      (convert 22 9 (.slice (some ⟨w.heap.size, 0, none⟩) n.toNat n.toNat)).run Try.prog w1 = .ok (.string (bytesOf (List.replicate n.toNat 0))) w1 ∧ Below w.heap.size w w1 := by
  obtain ⟨i, hi, hz0, hz1, hz2⟩ := info_parts info_u8
  refine ⟨_, run_make w 22 5 i _ Try.underlying22 hi hz0 .i64 .i64 n n h0 (Int.le_refl _) (by rw [hz2]; omega) (by omega), ?_, (Below.refl _ _).alloc (Nat.le_refl _) _⟩
  have hc := run_convert_bytes_back (P := Try.prog) (w.alloc (.cells (madeCells (Value.int .u8 0).cells (n.toNat * i.size)) 5)) 22 9 5 ⟨w.heap.size, 0, none⟩ n.toNat (List.replicate n.toNat 0) Try.underlying22 Try.underlying5 Try.underlying9 (fun j hj => by
    rw [List.length_replicate] at hj
    have e : (⟨w.heap.size, 0, none⟩ : Addr).add j = ⟨w.heap.size, j, none⟩ := by cases j <;> simp [Addr.add]
    rw [e, World.cell?_alloc_new, hz1]
    simp [madeCells, hj, Value.cells, Nat.mod_one])
  rwa [List.length_replicate] at hc
/-- what a drawn text is -/
def TextUpTo (most : Nat) (w : World) (e : Ending) (w' : World) : Prop := ∃ t : ByteArray, e = .returned (.string t) ∧ t.size ≤ most ∧ Below w.heap.size w w'
/-- what a drawn number is -/
def NumAny (w : World) (e : Ending) (w' : World) : Prop := ∃ v : Int, e = .returned (.int .i64 v) ∧ -9223372036854775808 ≤ v ∧ v ≤ 9223372036854775807 ∧ Below w.heap.size w w'
end Go.Proofs.Ytnmdfkempkaonaa.DrawC
