/- Of this claim's texts the part 4: St Draws. -/
import Derived.Test.YtelhmacfljffhabGreatProg
import Derived.WalkKit
import Derived.ProofKit
import Derived.Below
import Derived.LoopTactic
import Derived.RegionTactic
import Derived.BigRegion
import Derived.BigQuiet
import Derived.Deep.QuietTactic
import Derived.WalkSpells
import Derived.WalkLawsBesides
import Derived.Lib.Hide
import Derived.OwnWalk
import Derived.OpenShut
import Derived.Laws.Bits64
import Derived.Laws.MakeOwn
import Derived.Test.YtelhmacfljffhabGreatPV0
import Derived.Test.YtelhmacfljffhabGreatPV1
section
namespace Go.Proofs.YtelhmacfljffhabGreat.RepC
open Go.RowKit RowC ValC
set_option linter.unusedVariables false
def mtl (k : Nat) (out : ByteArray) : ByteArray := if h : k = 0 then out else mtl (k / 10) (⟨#[48 + UInt8.ofNat (k % 10)]⟩ ++ out)
termination_by k
decreasing_by omega
def mtI (k : Int) : ByteArray := if k ≤ 0 then ⟨#[109, 48]⟩ else ⟨#[109]⟩ ++ mtl k.toNat ⟨#[]⟩
def St : Rp ByteArray where
  size := 1
  rd _ _ d cs := cs = [.string d] ∧ d.size ≤ maxLen
  ow _ _ d cs := cs = [.string d] ∧ d.size ≤ maxLen
  mm d k k' := d = mtI k ∧ k' = k + 1
  mv _ k k' := k' = k
  cm _ := 1
  cv _ := 0
  sz d := d.size
theorem St_ok : Ok St where
  rd_len h := by rw [h.1]; rfl
  ow_len h := by rw [h.1]; rfl
  rd_below h _ := h
  rd_more h _ := h
  ow_keep h _ := h
  ow_more h _ := h
  ow_rd h _ := h
  one h u hu := by rw [h.1] at hu; simp at hu; subst hu; rfl
end Go.Proofs.YtelhmacfljffhabGreat.RepC
end
section
namespace Go.Proofs.YtelhmacfljffhabGreat.DrawC
open Go.RowKit
structure But (g : Nat) (w w' : World) : Prop where
  os : w'.os = w.os
  tape : w'.tape = w.tape
  output : w'.output = w.output
  size : w.heap.size ≤ w'.heap.size
  block : ∀ k, k < w.heap.size → k ≠ g → w'.heap[k]? = w.heap[k]?
theorem But.refl (g : Nat) (w : World) : But g w w := ⟨rfl, rfl, rfl, Nat.le_refl _, fun _ _ _ => rfl⟩
theorem But.trans {g : Nat} {a b c : World} (h : But g a b) (k : But g b c) : But g a c :=
  ⟨k.os.trans h.os, k.tape.trans h.tape, k.output.trans h.output, Nat.le_trans h.size k.size, fun i hi hg => (k.block i (Nat.lt_of_lt_of_le hi h.size) hg).trans (h.block i hi hg)⟩
theorem But.drew {g : Nat} {a w : World} (h : But g a w) : But g a w.drew := ⟨h.os, h.tape, h.output, h.size, h.block⟩
theorem But.alloc {g : Nat} {a w : World} (h : But g a w) (o : Obj) : But g a (w.alloc o) :=
  h.trans ⟨rfl, rfl, rfl, by simp, fun _ hk _ => Below.heap_alloc _ _ _ hk⟩
theorem But.setCell {g : Nat} {a w : World} (h : But g a w) (o : Nat) (u : Value) : But g a (w.setCell ⟨g, o, none⟩ u) :=
  h.trans ⟨rfl, rfl, rfl, by simp [World.setCell], fun _ _ hg => Below.heap_setCell _ _ _ _ hg⟩
theorem But.of_below {g : Nat} {a w w' : World} (h : But g a w) (k : Below w.heap.size w w') : But g a w' :=
  h.trans ⟨k.os, k.tape, k.output, k.size, fun i hi _ => k.block i hi⟩
theorem But.below {g B : Nat} {w w' : World} (h : But g w w') (hB : B ≤ w.heap.size) (hg : B ≤ g) : Below B w w' :=
  ⟨h.os, h.tape, h.output, h.size, fun k hk => h.block k (by omega) (by omega)⟩
theorem But.cell {g : Nat} {w w' : World} (h : But g w w') {p : Addr} (hp : p.block < w.heap.size) (hg : p.block ≠ g) : w'.cell? p = w.cell? p := World.cell?_of_block (w := w) (h.block p.block hp hg)
theorem But.frozen {g : Nat} {w w' : World} (h : But g w w') {p : Addr} (hp : p.block < w.heap.size) (hg : p.block ≠ g) : w'.frozen? p = w.frozen? p := World.frozen?_of_block (w := w) (h.block p.block hp hg)
def Code' (g : Nat) (w : World) (b : Option Addr) (len : Nat) : Prop := ∀ x, b = some x → ∀ i, i < len → (x.block < g ∧ ∃ c : Nat, c < 256 ∧ w.cell? (x.add i) = some (.int .u8 c))
structure Src (g : Nat) (b : Option Addr) (len cap : Nat) (w : World) : Prop where
  lt : g < w.heap.size
  len0 : len ≤ 1048576
  nil : b = none → len = 0
  code : Code' g w b len
  cells : ∃ (at' mix : Nat) (size : Int), at' ≤ len ∧ mix < 18446744073709551616 ∧ 0 ≤ size ∧ size ≤ 12 ∧ w.cell? ⟨g, 0, none⟩ = some (.slice b len cap) ∧ w.cell? ⟨g, 1, none⟩ = some (.int .i64 at') ∧ w.cell? ⟨g, 2, none⟩ = some (.int .u64 mix) ∧ w.cell? ⟨g, 3, none⟩ = some (.int .i64 size)
  soft : ∀ j, w.frozen? ⟨g, j, none⟩ = false
theorem But.drewN {g : Nat} {a w : World} (h : But g a w) (k : Nat) : But g a (w.drewN k) := ⟨h.os, h.tape, h.output, h.size, h.block⟩
structure Mid (g : Nat) (b : Option Addr) (len cap : Nat) (a : Int) (size : Int) (w W : World) : Prop where
  but : But g w W
  c0 : W.cell? ⟨g, 0, none⟩ = some (.slice b len cap)
  c1 : W.cell? ⟨g, 1, none⟩ = some (.int .i64 a)
  c2 : ∃ m : Nat, m < 18446744073709551616 ∧ W.cell? ⟨g, 2, none⟩ = some (.int .u64 m)
  c3 : W.cell? ⟨g, 3, none⟩ = some (.int .i64 size)
  soft : ∀ j, W.frozen? ⟨g, j, none⟩ = false
theorem Mid.mix {g : Nat} {b : Option Addr} {len cap : Nat} {a size : Int} {w W : World} (h : Mid g b len cap a size w W) {v : Int} (h0 : 0 ≤ v) (h1 : v < 18446744073709551616) :
    Mid g b len cap a size w ((W.setCell ⟨g, 2, none⟩ (.int .u64 v)).drew) := by
  obtain ⟨m, _, c2⟩ := h.c2
  refine ⟨(h.but.setCell 2 _).drew, ?_, ?_, ⟨v.toNat, by omega, ?_⟩, ?_, fun j => ?_⟩
  · simp [go_sem, h.c0]
  · simp [go_sem, h.c1]
  · rw [show ((v.toNat : Nat) : Int) = v by omega]; simp [go_sem, c2]
  · simp [go_sem, h.c3]
  · simpa using h.soft j
theorem Mid.drewN {g : Nat} {b : Option Addr} {len cap : Nat} {a size : Int} {w W : World} (h : Mid g b len cap a size w W) (k : Nat) : Mid g b len cap a size w (W.drewN k) :=
  ⟨h.but.drewN k, by simpa using h.c0, by simpa using h.c1, by simpa using h.c2, by simpa using h.c3, fun j => by simpa using h.soft j⟩
theorem Src.mono {g : Nat} {b : Option Addr} {len cap : Nat} {w w' : World} (h : Src g b len cap w) (hb : Below (g + 1) w w') : Src g b len cap w' := by
  obtain ⟨a, m, s, h1, h2, h3, h4, c0, c1, c2, c3⟩ := h.cells
  refine ⟨Nat.lt_of_lt_of_le h.lt hb.size, h.len0, h.nil, fun x hx => ?_, ⟨a, m, s, h1, h2, h3, h4, (hb.cell (p := ⟨g, 0, none⟩) (Nat.lt_succ_self _)).trans c0, (hb.cell (p := ⟨g, 1, none⟩) (Nat.lt_succ_self _)).trans c1, (hb.cell (p := ⟨g, 2, none⟩) (Nat.lt_succ_self _)).trans c2, (hb.cell (p := ⟨g, 3, none⟩) (Nat.lt_succ_self _)).trans c3⟩, fun j => (hb.frozen (p := ⟨g, j, none⟩) (Nat.lt_succ_self _)).trans (h.soft j)⟩
  intro i hi
  obtain ⟨hg, c, hc, e⟩ := h.code x hx i hi
  refine ⟨hg, ?_⟩
  have hx' : (x.add i).block = x.block := by cases i <;> simp [Addr.add]
  exact ⟨c, hc, (hb.cell (p := x.add i) (by rw [hx']; omega)).trans e⟩
theorem Src.alloc {g : Nat} {b : Option Addr} {len cap : Nat} {w : World} (h : Src g b len cap w) (o : Obj) : Src g b len cap (w.alloc o) :=
  h.mono ((Below.refl _ _).alloc h.lt _)
def CodeIn (w : World) (b : Option Addr) (len : Nat) : Prop := (b = none → len = 0) ∧ ∀ x, b = some x → ∀ i, i < len → (x.block < w.heap.size ∧ ∃ c : Nat, c < 256 ∧ w.cell? (x.add i) = some (.int .u8 c))
theorem Mid.size {g : Nat} {b : Option Addr} {len cap : Nat} {a size : Int} {w W : World} (h : Mid g b len cap a size w W) (s2 : Int) :
    Mid g b len cap a s2 w (W.setCell ⟨g, 3, none⟩ (.int .i64 s2)) := by
  obtain ⟨m, hm, c2⟩ := h.c2
  refine ⟨h.but.setCell 3 _, ?_, ?_, ⟨m, hm, ?_⟩, ?_, fun j => ?_⟩
  · simp [go_sem, h.c0]
  · simp [go_sem, h.c1]
  · simp [go_sem, c2]
  · simp [go_sem, h.c3]
  · simpa using h.soft j
theorem CodeIn.at {w : World} {x : Addr} {len i : Nat} (h : CodeIn w (some x) len) (hi : i < len) {o : Obj} {W : World} (hb : But w.heap.size (w.alloc o) W) : ∃ c : Nat, c < 256 ∧ W.cell? (x.add i) = some (.int .u8 c) := by
  obtain ⟨hx, c, hc, e⟩ := h.2 x rfl i hi
  have hx' : (x.add i).block = x.block := by cases i <;> simp [Addr.add]
  exact ⟨c, hc, ((hb.cell (p := x.add i) (by rw [hx']; simp; omega) (by rw [hx']; omega)).trans (World.cell?_alloc_lt _ _ _ (by rw [hx']; exact hx))).trans e⟩
theorem Mid.made {b : Option Addr} {len cap a : Nat} {size : Int} {w W : World} {o : Obj} (h : Mid w.heap.size b len cap a size (w.alloc o) W) (hc : CodeIn w b len) (hl : len ≤ 1048576) (ha : a ≤ len) (s0 : 0 ≤ size) (s1 : size ≤ 12) :
    Src w.heap.size b len cap W ∧ Below w.heap.size w W := by
  obtain ⟨m, hm, c2⟩ := h.c2
  refine ⟨⟨Nat.lt_of_lt_of_le (by simp) h.but.size, hl, hc.1, fun x hx => ?_, ⟨a, m, size, ha, hm, s0, s1, h.c0, h.c1, c2, h.c3⟩, h.soft⟩, ((Below.refl _ _).alloc (Nat.le_refl _) o).trans (h.but.below (by simp) (Nat.le_refl _))⟩
  subst hx
  exact fun i hi => ⟨(hc.2 x rfl i hi).1, hc.at hi h.but⟩
theorem info_u8 : (Tryz.prog.info? 5).map (fun i => (i.zero, i.size, i.bytes)) = some (some (.int .u8 0), 1, 1) := by kernel_rfl
theorem ret_str {a b : ByteArray} (h : a = b) : Ending.returned (.string a) = .returned (.string b) := by rw [h]
def bytesOf (l : List UInt8) : ByteArray := ⟨l.toArray⟩
theorem conv_nil (w : World) : (convert 76 9 (.slice none 0 0)).run Tryz.prog w = .ok (.string { data := #[] }) w := by kernel_rfl
theorem conv_of_own {B : Nat} {w : World} {v : Value} {l : List UInt8} (h : w.ownsRow B 5 1 v l.length (l.map fun c => Value.int .u8 (c.toNat : Int))) :
    (convert 76 9 v).run Tryz.prog w = .ok (.string (bytesOf l)) w := by
  have hc := fun g hg j u hj => World.ownsRow.cells h (g := g) hg j u hj
  rcases h with ⟨_, ⟨rfl, hn⟩ | ⟨g, cap, cur, rfl, _⟩⟩
  · obtain rfl := List.length_eq_zero_iff.1 hn
    exact conv_nil w
  · exact run_convert_bytes_back w 76 9 5 ⟨g, 0, none⟩ cap l Tryz.underlying76 Tryz.underlying5 Tryz.underlying9 (fun j hj => hc g rfl j _ (by simp [List.getElem?_eq_getElem hj]))
theorem one_map (l : List UInt8) (c : UInt8) : (l.map fun c => Value.int .u8 (c.toNat : Int)) ++ [Value.int .u8 (c.toNat : Int)] = (l ++ [c]).map fun c => Value.int .u8 (c.toNat : Int) := by simp
theorem But.grown {g : Nat} {a w w' : World} {row : Option Nat} (h : But g a w) (hg : w.grownBy w' row) (hr : ∀ k, row = some k → a.heap.size ≤ k) : But g a w' :=
  ⟨hg.os.trans h.os, hg.tape.trans h.tape, hg.output.trans h.output, Nat.le_trans h.size hg.size, fun k hk hkg => (hg.block k (Nat.lt_of_lt_of_le hk h.size) (fun e => by have := hr k e.symm; omega)).trans (h.block k hk hkg)⟩
theorem Src.grown {g : Nat} {b : Option Addr} {len cap : Nat} {w w' : World} {row : Option Nat} (h : Src g b len cap w) (hg : w.grownBy w' row) (hr : ∀ k, row = some k → g < k) : Src g b len cap w' :=
  h.mono ((Below.refl _ _).grown hg h.lt (fun k hk => hr k hk))
theorem cell_one_new (w : World) (v : Value) (t : TypeId) : ∀ j u, [v][j]? = some u → (w.alloc (.cells #[v] t)).cell? ((⟨w.heap.size, 0, none⟩ : Addr).add j) = some u := by
  intro j u hj
  match j, hj with
  | 0, hj => simp at hj; subst hj; simp [Addr.add]
theorem CodeIn.below {w w' : World} {b : Option Addr} {len : Nat} (h : CodeIn w b len) (hb : Below w.heap.size w w') : CodeIn w' b len := by
  refine ⟨h.1, fun x hx i hi => ?_⟩
  obtain ⟨hl, c, hc, e⟩ := h.2 x hx i hi
  refine ⟨Nat.lt_of_lt_of_le hl hb.size, ?_⟩
  have hx' : (x.add i).block = x.block := by cases i <;> simp [Addr.add]
  exact ⟨c, hc, (hb.cell (p := x.add i) (by rw [hx']; exact hl)).trans e⟩
end Go.Proofs.YtelhmacfljffhabGreat.DrawC
end
