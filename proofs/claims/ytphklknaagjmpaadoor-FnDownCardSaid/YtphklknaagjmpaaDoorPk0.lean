/- Of this claim's texts the part 0: Tk Draws RowO Kept Vals Rep Rep2 Rep3. -/
import Derived.Test.YtphklknaagjmpaaDoorRows
import Derived.LoopTactic
import Derived.BigQuiet
import Derived.Deep.QuietTactic
import Derived.Deep.RegionWith
import Derived.Deep.RegionHeld3
import Derived.RegionTactic
import Derived.WalkSpells
import Derived.WalkLawsBesides
import Derived.Test.YtphklknaagjmpaaDoorProg
import Derived.WalkKit
import Derived.ProofKit
import Derived.Below
import Derived.BigRegion
import Derived.Lib.Hide
import Derived.OwnWalk
import Derived.OpenShut
import Derived.Laws.Bits64
import Derived.Laws.MakeOwn
import Derived.Maps.AppendAt
import Derived.Laws.Append
import Derived.Deep.AppendLies
import Derived.Deep.DeepCutAuto
import Derived.IntWalk
import Derived.Laws.Entries
section
namespace Go.Proofs.YtphklknaagjmpaaDoor
section
variable {P : Program} {ops : Array Oper} {Q : Exit → Act → World → Prop} {md : Region.Mode} {S : World → Prop}
theorem tk (i : Nat) {oi : Oper} {v : Value} {fuel : Nat} {listed : Array Bool} {a a' : Act} {w : World} (hS : S w)
    (h : wpAnyH P md ops Q S fuel (listed.setIfInBounds i true) a' w)
    (hi : ops[i]? = some oi := by rfl) (hs : Region.noSelect ops = true := by kernel_rfl)
    (hf : Region.free md ops listed i = true := by kernel_rfl) (hr : (Region.ready md ops listed).contains i = true := by kernel_rfl)
    (hw : Region.wanted oi (yielded ops a.tmps) = true := by kernel_rfl)
    (hy : ∀ w, S w → (execOp a.eval oi).run P w = .ok (.value v) w := by
      intro w hSw; (try dsimp only at hSw); go_simp; try with_reducible rfl)
    (hQ : ∀ c a w, Q (.panic c) (a.put oi.dst v) w → Q (.panic c) a w := by exact fun _ _ _ h => h)
    (ha : a.put oi.dst v = a' := by
      first | (simp only [Act.put, List.getElem_toArray, List.getElem_cons_succ, List.getElem_cons_zero, List.setIfInBounds_toArray, List.set_cons_zero, List.set_cons_succ]; done) | (simp only [Act.put, List.getElem_toArray, List.getElem_cons_succ, List.getElem_cons_zero, List.setIfInBounds_toArray, List.set_cons_zero, List.set_cons_succ]; exact rfl) | exact rfl) :
    wpAnyH P md ops Q S (fuel + 1) listed a w := by
  subst ha
  exact wpAnyH_take hi hs hf hr hQ (Or.inl ⟨hw, hy⟩) hS h
theorem tn (i : Nat) {oi : Oper} {fuel : Nat} {listed : Array Bool} {a a' : Act} {w : World} (hS : S w)
    (h : wpAnyH P md ops Q S fuel (listed.setIfInBounds i true) a' w)
    (hi : ops[i]? = some oi := by rfl) (hs : Region.noSelect ops = true := by kernel_rfl)
    (hf : Region.free md ops listed i = true := by kernel_rfl) (hr : (Region.ready md ops listed).contains i = true := by kernel_rfl)
    (hw : Region.wanted oi (yielded ops a.tmps) = false := by kernel_rfl)
    (hQ : ∀ c a w, Q (.panic c) (a.put oi.dst undef) w → Q (.panic c) a w := by exact fun _ _ _ h => h)
    (ha : a.put oi.dst undef = a' := by
      first | (simp only [Act.put, List.getElem_toArray, List.getElem_cons_succ, List.getElem_cons_zero, List.setIfInBounds_toArray, List.set_cons_zero, List.set_cons_succ]; done) | (simp only [Act.put, List.getElem_toArray, List.getElem_cons_succ, List.getElem_cons_zero, List.setIfInBounds_toArray, List.set_cons_zero, List.set_cons_succ]; exact rfl) | exact rfl) :
    wpAnyH P md ops Q S (fuel + 1) listed a w := by
  subst ha
  exact wpAnyH_take hi hs hf hr hQ (Or.inr ⟨hw, rfl⟩) hS h
theorem rd1 (i : Nat) {o : Oper} {fuel : Nat} {listed : Array Bool} {a a' : Act} {w : World}
    (h : ∀ K' : Act → World → Prop, Shut (∀ a w, S w → (S w → wpAnyH P md ops Q S fuel (listed.setIfInBounds i true) a w) → K' a w) → if Region.wanted o (yielded ops a'.tmps) = true then Oper.wp P o a' w K' Q else K' (a'.put o.dst undef) w)
    (ha : a = a' := by
      first | (simp only [Act.put, List.getElem_toArray, List.getElem_cons_succ, List.getElem_cons_zero, List.setIfInBounds_toArray, List.set_cons_zero, List.set_cons_succ]; done) | (simp only [Act.put, List.getElem_toArray, List.getElem_cons_succ, List.getElem_cons_zero, List.setIfInBounds_toArray, List.set_cons_zero, List.set_cons_succ]; exact rfl) | exact rfl)
    (ho : ops[i]? = some o := by rfl) (hr : Region.ready md ops listed = [i] := by kernel_rfl) :
    wpAnyH P md ops Q S (fuel + 1) listed a w := by
  subst ha
  exact wpAnyH_ready hr (by simp) (AllReadyH.cons ho h AllReadyH.nil)
theorem rd2 (i j : Nat) {o o2 : Oper} {fuel : Nat} {listed : Array Bool} {a a' : Act} {w : World}
    (h : ∀ K' : Act → World → Prop, Shut (∀ a w, S w → (S w → wpAnyH P md ops Q S fuel (listed.setIfInBounds i true) a w) → K' a w) → if Region.wanted o (yielded ops a'.tmps) = true then Oper.wp P o a' w K' Q else K' (a'.put o.dst undef) w)
    (h2 : ∀ K' : Act → World → Prop, Shut (∀ a w, S w → (S w → wpAnyH P md ops Q S fuel (listed.setIfInBounds j true) a w) → K' a w) → if Region.wanted o2 (yielded ops a'.tmps) = true then Oper.wp P o2 a' w K' Q else K' (a'.put o2.dst undef) w)
    (ha : a = a' := by
      first | (simp only [Act.put, List.getElem_toArray, List.getElem_cons_succ, List.getElem_cons_zero, List.setIfInBounds_toArray, List.set_cons_zero, List.set_cons_succ]; done) | (simp only [Act.put, List.getElem_toArray, List.getElem_cons_succ, List.getElem_cons_zero, List.setIfInBounds_toArray, List.set_cons_zero, List.set_cons_succ]; exact rfl) | exact rfl)
    (ho : ops[i]? = some o := by rfl) (ho2 : ops[j]? = some o2 := by rfl) (hr : Region.ready md ops listed = [i, j] := by kernel_rfl) :
    wpAnyH P md ops Q S (fuel + 1) listed a w := by
  subst ha
  exact wpAnyH_ready hr (by simp) (AllReadyH.cons ho h (AllReadyH.cons ho2 h2 AllReadyH.nil))
theorem rd3 (i j k : Nat) {o o2 o3 : Oper} {fuel : Nat} {listed : Array Bool} {a a' : Act} {w : World}
    (h : ∀ K' : Act → World → Prop, Shut (∀ a w, S w → (S w → wpAnyH P md ops Q S fuel (listed.setIfInBounds i true) a w) → K' a w) → if Region.wanted o (yielded ops a'.tmps) = true then Oper.wp P o a' w K' Q else K' (a'.put o.dst undef) w)
    (h2 : ∀ K' : Act → World → Prop, Shut (∀ a w, S w → (S w → wpAnyH P md ops Q S fuel (listed.setIfInBounds j true) a w) → K' a w) → if Region.wanted o2 (yielded ops a'.tmps) = true then Oper.wp P o2 a' w K' Q else K' (a'.put o2.dst undef) w)
    (h3 : ∀ K' : Act → World → Prop, Shut (∀ a w, S w → (S w → wpAnyH P md ops Q S fuel (listed.setIfInBounds k true) a w) → K' a w) → if Region.wanted o3 (yielded ops a'.tmps) = true then Oper.wp P o3 a' w K' Q else K' (a'.put o3.dst undef) w)
    (ha : a = a' := by
      first | (simp only [Act.put, List.getElem_toArray, List.getElem_cons_succ, List.getElem_cons_zero, List.setIfInBounds_toArray, List.set_cons_zero, List.set_cons_succ]; done) | (simp only [Act.put, List.getElem_toArray, List.getElem_cons_succ, List.getElem_cons_zero, List.setIfInBounds_toArray, List.set_cons_zero, List.set_cons_succ]; exact rfl) | exact rfl)
    (ho : ops[i]? = some o := by rfl) (ho2 : ops[j]? = some o2 := by rfl) (ho3 : ops[k]? = some o3 := by rfl) (hr : Region.ready md ops listed = [i, j, k] := by kernel_rfl) :
    wpAnyH P md ops Q S (fuel + 1) listed a w := by
  subst ha
  exact wpAnyH_ready hr (by simp) (AllReadyH.cons ho h (AllReadyH.cons ho2 h2 (AllReadyH.cons ho3 h3 AllReadyH.nil)))
theorem rd0 {listed : Array Bool} {a a' : Act} {w : World} {fuel : Nat} (h : Q .normal a' w)
    (ha : a = a' := by
      first | (simp only [Act.put, List.getElem_toArray, List.getElem_cons_succ, List.getElem_cons_zero, List.setIfInBounds_toArray, List.set_cons_zero, List.set_cons_succ]; done) | (simp only [Act.put, List.getElem_toArray, List.getElem_cons_succ, List.getElem_cons_zero, List.setIfInBounds_toArray, List.set_cons_zero, List.set_cons_succ]; exact rfl) | exact rfl)
    (hr : Region.ready md ops listed = [] := by kernel_rfl) : wpAnyH P md ops Q S fuel listed a w := by
  subst ha
  exact wpAnyH_done hr h fuel
end
end Go.Proofs.YtphklknaagjmpaaDoor
end
section
namespace Go.Proofs.YtphklknaagjmpaaDoor.DrawC
open Go.RowKit
structure But (g : Nat) (w w' : World) : Prop where
  os : w'.os = w.os
  tape : w'.tape = w.tape
  output : w'.output = w.output
  size : w.heap.size ≤ w'.heap.size
  block : ∀ k, k < w.heap.size → k ≠ g → w'.heap[k]? = w.heap[k]?
theorem But.refl (g : Nat) (w : World) : But g w w := ⟨rfl, rfl, rfl, Nat.le_refl _, fun _ _ _ => rfl⟩
theorem But.trans {g : Nat} {a b c : World} (h : But g a b) (k : But g b c) : But g a c :=
  ⟨k.os.trans h.os, k.tape.trans h.tape, k.output.trans h.output, Nat.le_trans h.size k.size, fun i hi hg => (k.block i (Nat.lt_of_lt_of_le hi h.size) hg).trans (h.block i hi hg)⟩
theorem But.drew {g : Nat} {a w : World} (h : But g a w) : But g a w.drew := ⟨h.os, h.tape, h.output, h.size, h.block⟩
theorem But.alloc {g : Nat} {a w : World} (h : But g a w) (o : Obj) : But g a (w.alloc o) :=
  h.trans ⟨rfl, rfl, rfl, by simp, fun _ hk _ => Below.heap_alloc _ _ _ hk⟩
theorem But.setCell {g : Nat} {a w : World} (h : But g a w) (o : Nat) (u : Value) : But g a (w.setCell ⟨g, o, none⟩ u) :=
  h.trans ⟨rfl, rfl, rfl, by simp [World.setCell], fun _ _ hg => Below.heap_setCell _ _ _ _ hg⟩
theorem But.below {g B : Nat} {w w' : World} (h : But g w w') (hB : B ≤ w.heap.size) (hg : B ≤ g) : Below B w w' :=
  ⟨h.os, h.tape, h.output, h.size, fun k hk => h.block k (by omega) (by omega)⟩
theorem But.cell {g : Nat} {w w' : World} (h : But g w w') {p : Addr} (hp : p.block < w.heap.size) (hg : p.block ≠ g) : w'.cell? p = w.cell? p := World.cell?_of_block (w := w) (h.block p.block hp hg)
theorem But.frozen {g : Nat} {w w' : World} (h : But g w w') {p : Addr} (hp : p.block < w.heap.size) (hg : p.block ≠ g) : w'.frozen? p = w.frozen? p := World.frozen?_of_block (w := w) (h.block p.block hp hg)
def Code' (g : Nat) (w : World) (b : Option Addr) (len : Nat) : Prop := ∀ x, b = some x → ∀ i, i < len → (x.block < g ∧ ∃ c : Nat, c < 256 ∧ w.cell? (x.add i) = some (.int .u8 c))
structure Src (g : Nat) (b : Option Addr) (len cap : Nat) (w : World) : Prop where
  lt : g < w.heap.size
  len0 : len ≤ 1048576
  nil : b = none → len = 0
  code : Code' g w b len
  cells : ∃ (at' mix : Nat) (size : Int), at' ≤ len ∧ mix < 18446744073709551616 ∧ 0 ≤ size ∧ size ≤ 12 ∧ w.cell? ⟨g, 0, none⟩ = some (.slice b len cap) ∧ w.cell? ⟨g, 1, none⟩ = some (.int .i64 at') ∧ w.cell? ⟨g, 2, none⟩ = some (.int .u64 mix) ∧ w.cell? ⟨g, 3, none⟩ = some (.int .i64 size)
  soft : ∀ j, w.frozen? ⟨g, j, none⟩ = false
def Drawn (g : Nat) (b : Option Addr) (len cap : Nat) (most : Int) (w : World) (e : Ending) (w' : World) : Prop :=
  ∃ v : Int, e = .returned (.int .i64 v) ∧ 0 ≤ v ∧ (v < most ∨ v = 0) ∧ Src g b len cap w' ∧ But g w w'
theorem bits_bd (o : BinOp) (a b : Int) : 0 ≤ bits o .u64 a b ∧ bits o .u64 a b < 18446744073709551616 := by
  unfold bits
  simp only [IntKind.wrap_u64]
  omega
theorem But.drewN {g : Nat} {a w : World} (h : But g a w) (k : Nat) : But g a (w.drewN k) := ⟨h.os, h.tape, h.output, h.size, h.block⟩
theorem gen_world {p : World → Prop} (W : World) (F : World → Prop) (hF : F W) (h : ∀ W1, F W1 → p W1) : p W := h W hF
structure Mid (g : Nat) (b : Option Addr) (len cap : Nat) (a : Int) (size : Int) (w W : World) : Prop where
  but : But g w W
  c0 : W.cell? ⟨g, 0, none⟩ = some (.slice b len cap)
  c1 : W.cell? ⟨g, 1, none⟩ = some (.int .i64 a)
  c2 : ∃ m : Nat, m < 18446744073709551616 ∧ W.cell? ⟨g, 2, none⟩ = some (.int .u64 m)
  c3 : W.cell? ⟨g, 3, none⟩ = some (.int .i64 size)
  soft : ∀ j, W.frozen? ⟨g, j, none⟩ = false
theorem Mid.mix {g : Nat} {b : Option Addr} {len cap : Nat} {a size : Int} {w W : World} (h : Mid g b len cap a size w W) {v : Int} (h0 : 0 ≤ v) (h1 : v < 18446744073709551616) :
    Mid g b len cap a size w ((W.setCell ⟨g, 2, none⟩ (.int .u64 v)).drew) := by
  obtain ⟨m, _, c2⟩ := h.c2
  refine ⟨(h.but.setCell 2 _).drew, ?_, ?_, ⟨v.toNat, by omega, ?_⟩, ?_, fun j => ?_⟩
  · simp [go_sem, h.c0]
  · simp [go_sem, h.c1]
  · rw [show ((v.toNat : Nat) : Int) = v by omega]; simp [go_sem, c2]
  · simp [go_sem, h.c3]
  · simpa using h.soft j
theorem Mid.count {g : Nat} {b : Option Addr} {len cap : Nat} {a size : Int} {w W : World} (h : Mid g b len cap a size w W) (a2 : Int) :
    Mid g b len cap a2 size w (W.setCell ⟨g, 1, none⟩ (.int .i64 a2)) := by
  obtain ⟨m, hm, c2⟩ := h.c2
  refine ⟨h.but.setCell 1 _, ?_, ?_, ⟨m, hm, ?_⟩, ?_, fun j => ?_⟩
  · simp [go_sem, h.c0]
  · simp [go_sem, h.c1]
  · simp [go_sem, c2]
  · simp [go_sem, h.c3]
  · simpa using h.soft j
theorem Mid.drewN {g : Nat} {b : Option Addr} {len cap : Nat} {a size : Int} {w W : World} (h : Mid g b len cap a size w W) (k : Nat) : Mid g b len cap a size w (W.drewN k) :=
  ⟨h.but.drewN k, by simpa using h.c0, by simpa using h.c1, by simpa using h.c2, by simpa using h.c3, fun j => by simpa using h.soft j⟩
theorem Mid.src {g : Nat} {b : Option Addr} {len cap : Nat} {a : Nat} {size : Int} {w W : World} (h : Mid g b len cap a size w W) (hs : Src g b len cap w) (ha : a ≤ len) (s0 : 0 ≤ size) (s1 : size ≤ 12) : Src g b len cap W := by
  obtain ⟨m, hm, c2⟩ := h.c2
  refine ⟨Nat.lt_of_lt_of_le hs.lt h.but.size, hs.len0, hs.nil, fun x hx => ?_, ⟨a, m, size, ha, hm, s0, s1, h.c0, h.c1, c2, h.c3⟩, h.soft⟩
  intro i hi
  obtain ⟨hg, c, hc, e⟩ := hs.code x hx i hi
  refine ⟨hg, ?_⟩
  have hb : (x.add i).block = x.block := by cases i <;> simp [Addr.add]
  exact ⟨c, hc, (h.but.cell (p := x.add i) (by rw [hb]; exact Nat.lt_trans hg hs.lt) (by rw [hb]; omega)).trans e⟩
theorem rem_bd (X : Int) {most : Int} (hm : 1 < most) (hm2 : most ≤ 9223372036854775807) : 0 ≤ wrap64 (X % most) ∧ wrap64 (X % most) < most := by
  have h1 := Int.emod_nonneg X (show most ≠ 0 by omega)
  have h2 := Int.emod_lt_of_pos X (show 0 < most by omega)
  unfold wrap64
  omega
set_option maxRecDepth 100000 in
set_option maxHeartbeats 1000000 in
theorem n_more (g : Nat) (b : Option Addr) (len cap : Nat) (most : Int) (w : World) (h : Src g b len cap w) (hm : 1 < most) (hm2 : most ≤ 9223372036854775807) :
    Calls Tryd.prog 20 #[.pointer (some ⟨g, 0, none⟩), .int .i64 most] w (Drawn g b len cap most w) := by
  have HS := Lib.hid h
  obtain ⟨hlt, hlen, hnil, hcode, ⟨at', mix, size, hat, hmix, hs0, hs1, c0, c1, c2, c3⟩, hf⟩ := h
  have HM : Hid (Mid g b len cap at' size w w) := Lib.hid ⟨But.refl _ _, c0, c1, ⟨mix, hmix, c2⟩, c3, hf⟩
  have f1 := hf 1
  have f2 := hf 2
  have HC := Lib.hid hcode
  by_cases ha : at' < len
  · obtain ⟨x, rfl⟩ : ∃ x, b = some x := by
      cases b with
      | none => have := hnil rfl; omega
      | some x => exact ⟨x, rfl⟩
    obtain ⟨hxg, c, hc, hrow⟩ := HC.out x rfl at' ha
    clear hf hcode hnil
    go_enter Tryd.func20, Tryd.ntmps20
    go_wp2
    go_quiet (fail)
    go_wp2
    go_quiet (fail)
    go_wp2
    refine gen_world (p := fun W => Code.wp _ _ _ _ W) _ (Mid g (some x) len cap (at' + 1 : Nat) size w) ((HM.out.drewN _).count _) ?_
    rintro W ⟨hb1, d0, d1, ⟨m, hm1, d2⟩, d3, e⟩
    have HM2 : Hid (Mid g (some x) len cap (at' + 1 : Nat) size w W) := Lib.hid ⟨hb1, d0, d1, ⟨m, hm1, d2⟩, d3, e⟩
    have f1 := e 1
    have f2 := e 2
    clear hb1 e c0 c1 c2 c3
    go_region
    refine gen_world (p := fun W => Exit.then _ _ Exit.normal _ W) _ (Mid g (some x) len cap (at' + 1 : Nat) size w) (HM2.out.mix (bits_bd _ _ _).1 (bits_bd _ _ _).2) ?_
    clear HM2 d0 d1 d2 d3 f1 f2
    rintro W ⟨hb1, d0, d1, ⟨m, hm1, d2⟩, d3, e⟩
    have HM2 : Hid (Mid g (some x) len cap (at' + 1 : Nat) size w W) := Lib.hid ⟨hb1, d0, d1, ⟨m, hm1, d2⟩, d3, e⟩
    have f1 := e 1
    have f2 := e 2
    clear hb1 e
    go_wp2
    go_region
    refine gen_world (p := fun W => Exit.then _ _ Exit.normal _ W) _ (Mid g (some x) len cap (at' + 1 : Nat) size w) (HM2.out.mix (bits_bd _ _ _).1 (bits_bd _ _ _).2) ?_
    clear HM2 d0 d1 d2 d3 f1 f2
    rintro W ⟨hb1, d0, d1, ⟨m, hm1, d2⟩, d3, e⟩
    have HM2 : Hid (Mid g (some x) len cap (at' + 1 : Nat) size w W) := Lib.hid ⟨hb1, d0, d1, ⟨m, hm1, d2⟩, d3, e⟩
    have f1 := e 1
    have f2 := e 2
    clear hb1 e
    go_wp2
    go_region
    refine gen_world (p := fun W => Exit.then _ _ Exit.normal _ W) _ (Mid g (some x) len cap (at' + 1 : Nat) size w) (HM2.out.mix (bits_bd _ _ _).1 (bits_bd _ _ _).2) ?_
    clear HM2 d0 d1 d2 d3 f1 f2
    rintro W ⟨hb1, d0, d1, ⟨m, hm1, d2⟩, d3, e⟩
    have HM2 : Hid (Mid g (some x) len cap (at' + 1 : Nat) size w W) := Lib.hid ⟨hb1, d0, d1, ⟨m, hm1, d2⟩, d3, e⟩
    clear hb1 e
    go_wp2
    go_ret
    unfold Drawn
    exact ⟨_, rfl, (rem_bd _ hm hm2).1, .inl (rem_bd _ hm hm2).2, HM2.out.src HS.out (by omega) hs0 hs1, HM2.out.but⟩
  · clear hf hcode hnil
    go_enter Tryd.func20, Tryd.ntmps20
    go_wp2
    go_quiet (fail)
    go_wp2
    refine gen_world (p := fun W => Code.wp _ _ _ _ W) _ (Mid g b len cap at' size w) (HM.out.drewN _) ?_
    rintro W ⟨hb1, d0, d1, ⟨m, hm1, d2⟩, d3, e⟩
    have HM2 : Hid (Mid g b len cap at' size w W) := Lib.hid ⟨hb1, d0, d1, ⟨m, hm1, d2⟩, d3, e⟩
    have f1 := e 1
    have f2 := e 2
    clear hb1 e c0 c1 c2 c3
    go_region
    refine gen_world (p := fun W => Exit.then _ _ Exit.normal _ W) _ (Mid g b len cap at' size w) (HM2.out.mix (bits_bd _ _ _).1 (bits_bd _ _ _).2) ?_
    clear HM2 d0 d1 d2 d3 f1 f2
    rintro W ⟨hb1, d0, d1, ⟨m, hm1, d2⟩, d3, e⟩
    have HM2 : Hid (Mid g b len cap at' size w W) := Lib.hid ⟨hb1, d0, d1, ⟨m, hm1, d2⟩, d3, e⟩
    have f1 := e 1
    have f2 := e 2
    clear hb1 e
    go_wp2
    go_region
    refine gen_world (p := fun W => Exit.then _ _ Exit.normal _ W) _ (Mid g b len cap at' size w) (HM2.out.mix (bits_bd _ _ _).1 (bits_bd _ _ _).2) ?_
    clear HM2 d0 d1 d2 d3 f1 f2
    rintro W ⟨hb1, d0, d1, ⟨m, hm1, d2⟩, d3, e⟩
    have HM2 : Hid (Mid g b len cap at' size w W) := Lib.hid ⟨hb1, d0, d1, ⟨m, hm1, d2⟩, d3, e⟩
    have f1 := e 1
    have f2 := e 2
    clear hb1 e
    go_wp2
    go_region
    refine gen_world (p := fun W => Exit.then _ _ Exit.normal _ W) _ (Mid g b len cap at' size w) (HM2.out.mix (bits_bd _ _ _).1 (bits_bd _ _ _).2) ?_
    clear HM2 d0 d1 d2 d3 f1 f2
    rintro W ⟨hb1, d0, d1, ⟨m, hm1, d2⟩, d3, e⟩
    have HM2 : Hid (Mid g b len cap at' size w W) := Lib.hid ⟨hb1, d0, d1, ⟨m, hm1, d2⟩, d3, e⟩
    clear hb1 e
    go_wp2
    go_ret
    unfold Drawn
    exact ⟨_, rfl, (rem_bd _ hm hm2).1, .inl (rem_bd _ hm hm2).2, HM2.out.src HS.out (by omega) hs0 hs1, HM2.out.but⟩
theorem n_any (g : Nat) (b : Option Addr) (len cap : Nat) (most : Int) (w : World) (h : Src g b len cap w) (hm2 : most ≤ 9223372036854775807) :
    Calls Tryd.prog 20 #[.pointer (some ⟨g, 0, none⟩), .int .i64 most] w (Drawn g b len cap most w) := by
  by_cases hm : 1 < most
  · exact n_more g b len cap most w h hm hm2
  · have HS := Lib.hid h
    clear h
    go_enter Tryd.func20, Tryd.ntmps20
    go_wp2
    go_ret
    unfold Drawn
    exact ⟨0, rfl, by omega, .inr rfl, HS.out, But.refl _ _⟩
def DrawnB (g : Nat) (b : Option Addr) (len cap : Nat) (w : World) (e : Ending) (w' : World) : Prop :=
  ∃ v : Bool, e = .returned (.bool v) ∧ Src g b len cap w' ∧ But g w w'
theorem one_any (g : Nat) (b : Option Addr) (len cap : Nat) (most : Int) (w : World) (h : Src g b len cap w) (hm2 : most ≤ 9223372036854775807) :
    Calls Tryd.prog 21 #[.pointer (some ⟨g, 0, none⟩), .int .i64 most] w (DrawnB g b len cap w) := by
  have HS := Lib.hid h
  clear h
  go_enter Tryd.func21, Tryd.ntmps21
  go_wp2_with fail
  refine (n_any g b len cap most _ HS.out hm2).mono ?_
  rintro e w1 ⟨v, rfl, h0, h1, hs, hb⟩
  have HR : Hid (Src g b len cap w1 ∧ But g w w1) := Lib.hid ⟨hs, hb⟩
  clear hs hb
  go_wp2
  go_ret
  unfold DrawnB
  exact ⟨_, rfl, HR.out⟩
theorem Src.mono {g : Nat} {b : Option Addr} {len cap : Nat} {w w' : World} (h : Src g b len cap w) (hb : Below (g + 1) w w') : Src g b len cap w' := by
  obtain ⟨a, m, s, h1, h2, h3, h4, c0, c1, c2, c3⟩ := h.cells
  refine ⟨Nat.lt_of_lt_of_le h.lt hb.size, h.len0, h.nil, fun x hx => ?_, ⟨a, m, s, h1, h2, h3, h4, (hb.cell (p := ⟨g, 0, none⟩) (Nat.lt_succ_self _)).trans c0, (hb.cell (p := ⟨g, 1, none⟩) (Nat.lt_succ_self _)).trans c1, (hb.cell (p := ⟨g, 2, none⟩) (Nat.lt_succ_self _)).trans c2, (hb.cell (p := ⟨g, 3, none⟩) (Nat.lt_succ_self _)).trans c3⟩, fun j => (hb.frozen (p := ⟨g, j, none⟩) (Nat.lt_succ_self _)).trans (h.soft j)⟩
  intro i hi
  obtain ⟨hg, c, hc, e⟩ := h.code x hx i hi
  refine ⟨hg, ?_⟩
  have hx' : (x.add i).block = x.block := by cases i <;> simp [Addr.add]
  exact ⟨c, hc, (hb.cell (p := x.add i) (by rw [hx']; omega)).trans e⟩
theorem Src.alloc {g : Nat} {b : Option Addr} {len cap : Nat} {w : World} (h : Src g b len cap w) (o : Obj) : Src g b len cap (w.alloc o) :=
  h.mono ((Below.refl _ _).alloc h.lt _)
def Made (b : Option Addr) (len cap : Nat) (w : World) (e : Ending) (w' : World) : Prop :=
  e = .returned (.pointer (some ⟨w.heap.size, 0, none⟩)) ∧ Src w.heap.size b len cap w' ∧ Below w.heap.size w w'
def CodeIn (w : World) (b : Option Addr) (len : Nat) : Prop := (b = none → len = 0) ∧ ∀ x, b = some x → ∀ i, i < len → (x.block < w.heap.size ∧ ∃ c : Nat, c < 256 ∧ w.cell? (x.add i) = some (.int .u8 c))
theorem Mid.size {g : Nat} {b : Option Addr} {len cap : Nat} {a size : Int} {w W : World} (h : Mid g b len cap a size w W) (s2 : Int) :
    Mid g b len cap a s2 w (W.setCell ⟨g, 3, none⟩ (.int .i64 s2)) := by
  obtain ⟨m, hm, c2⟩ := h.c2
  refine ⟨h.but.setCell 3 _, ?_, ?_, ⟨m, hm, ?_⟩, ?_, fun j => ?_⟩
  · simp [go_sem, h.c0]
  · simp [go_sem, h.c1]
  · simp [go_sem, c2]
  · simp [go_sem, h.c3]
  · simpa using h.soft j
theorem wrap_bd (x : Int) : 0 ≤ IntKind.u64.wrap x ∧ IntKind.u64.wrap x < 18446744073709551616 := by simp only [IntKind.wrap_u64]; omega
theorem CodeIn.at {w : World} {x : Addr} {len i : Nat} (h : CodeIn w (some x) len) (hi : i < len) {o : Obj} {W : World} (hb : But w.heap.size (w.alloc o) W) : ∃ c : Nat, c < 256 ∧ W.cell? (x.add i) = some (.int .u8 c) := by
  obtain ⟨hx, c, hc, e⟩ := h.2 x rfl i hi
  have hx' : (x.add i).block = x.block := by cases i <;> simp [Addr.add]
  exact ⟨c, hc, ((hb.cell (p := x.add i) (by rw [hx']; simp; omega) (by rw [hx']; omega)).trans (World.cell?_alloc_lt _ _ _ (by rw [hx']; exact hx))).trans e⟩
theorem Mid.made {b : Option Addr} {len cap a : Nat} {size : Int} {w W : World} {o : Obj} (h : Mid w.heap.size b len cap a size (w.alloc o) W) (hc : CodeIn w b len) (hl : len ≤ 1048576) (ha : a ≤ len) (s0 : 0 ≤ size) (s1 : size ≤ 12) :
    Src w.heap.size b len cap W ∧ Below w.heap.size w W := by
  obtain ⟨m, hm, c2⟩ := h.c2
  refine ⟨⟨Nat.lt_of_lt_of_le (by simp) h.but.size, hl, hc.1, fun x hx => ?_, ⟨a, m, size, ha, hm, s0, s1, h.c0, h.c1, c2, h.c3⟩, h.soft⟩, ((Below.refl _ _).alloc (Nat.le_refl _) o).trans (h.but.below (by simp) (Nat.le_refl _))⟩
  subst hx
  exact fun i hi => ⟨(hc.2 x rfl i hi).1, hc.at hi h.but⟩
set_option maxRecDepth 100000 in
theorem source_any (b : Option Addr) (len cap : Nat) (w : World) (hlen : len ≤ 1048576) (h : CodeIn w b len) :
    Calls Tryd.prog 18 #[.slice b len cap] w (Made b len cap w) := by
  have HC := Lib.hid h
  have hn := h.1
  clear h
  go_enter Tryd.func18, Tryd.ntmps18
  go_wp2
  go_loopw [4] (fun i w1 => ∃ k : Nat, k ≤ len ∧ k ≤ 64 ∧ i = .int .i64 k ∧ Mid w.heap.size b len cap 0 0 (w.alloc (.cells #[.slice b len cap, .int .i64 0, .int .u64 88172645463325252, .int .i64 0] 73)) w1) (fun i _ => 64 - (intOf i).toNat)
  case atStart =>
    exact ⟨0, by omega, by omega, rfl, But.refl _ _, by simp, by simp, ⟨88172645463325252, by omega, by simp⟩, by simp, fun j => by simp⟩
  case round =>
    obtain ⟨k, hk, hk64, rfl, hm⟩ := hrel
    have HM := Lib.hid hm
    by_cases hlt : k < len ∧ k < 64
    · obtain ⟨h1, h2⟩ := hlt
      obtain ⟨x, rfl⟩ : ∃ x, b = some x := by
        cases b with
        | none => have := hn rfl; omega
        | some x => exact ⟨x, rfl⟩
      obtain ⟨c, hc, hcell⟩ := HC.out.at h1 hm.but
      obtain ⟨hb1, d0, d1, ⟨m, hm1, d2⟩, d3, e⟩ := hm
      have f2 := e 2
      clear hb1 e hn
      go_wp2
      go_region
      all_goals go_wp2
      go_roundw
      case rel => exact ⟨k + 1, by omega, by omega, by go_num, HM.out.mix (wrap_bd _).1 (wrap_bd _).2⟩
      case measure => simp [intOf]; omega
    · obtain ⟨hb1, d0, d1, ⟨m, hm1, d2⟩, d3, e⟩ := hm
      have f3 := e 3
      clear hb1 e hn
      by_cases h3 : (len : Int) / 20 ≤ 12
      · go_wp2
        all_goals
          go_ret
          unfold Made
          exact ⟨rfl, (HM.out.size _).made (a := 0) HC.out hlen (Nat.zero_le _) (by omega) (by omega)⟩
      · go_wp2
        all_goals
          go_ret
          unfold Made
          exact ⟨rfl, ((HM.out.size _).size _).made (a := 0) HC.out hlen (Nat.zero_le _) (by omega) (by omega)⟩
theorem But.grown {g : Nat} {a w w' : World} {row : Option Nat} (h : But g a w) (hg : w.grownBy w' row) (hr : ∀ k, row = some k → a.heap.size ≤ k) : But g a w' :=
  ⟨hg.os.trans h.os, hg.tape.trans h.tape, hg.output.trans h.output, Nat.le_trans h.size hg.size, fun k hk hkg => (hg.block k (Nat.lt_of_lt_of_le hk h.size) (fun e => by have := hr k e.symm; omega)).trans (h.block k hk hkg)⟩
theorem Src.grown {g : Nat} {b : Option Addr} {len cap : Nat} {w w' : World} {row : Option Nat} (h : Src g b len cap w) (hg : w.grownBy w' row) (hr : ∀ k, row = some k → g < k) : Src g b len cap w' :=
  h.mono ((Below.refl _ _).grown hg h.lt (fun k hk => hr k hk))
def Reads (w : World) (b : Option Addr) (len : Nat) : Prop := (b = none → len = 0) ∧ ∀ x, b = some x → ∀ i, i < len → ∃ c : Nat, c < 256 ∧ w.cell? (x.add i) = some (.int .u8 c)
theorem Reads.of {w : World} {b : Option Addr} {len : Nat} (h : CodeIn w b len) : Reads w b len := ⟨h.1, fun x hx i hi => (h.2 x hx i hi).2⟩
theorem CodeIn.below {w w' : World} {b : Option Addr} {len : Nat} (h : CodeIn w b len) (hb : Below w.heap.size w w') : CodeIn w' b len := by
  refine ⟨h.1, fun x hx i hi => ?_⟩
  obtain ⟨hl, c, hc, e⟩ := h.2 x hx i hi
  refine ⟨Nat.lt_of_lt_of_le hl hb.size, ?_⟩
  have hx' : (x.add i).block = x.block := by cases i <;> simp [Addr.add]
  exact ⟨c, hc, (hb.cell (p := x.add i) (by rw [hx']; exact hl)).trans e⟩
theorem CodeIn.of_row {w : World} {a : Option Addr} {len cap : Nat} {zs : List Int}
    (h : (a = none ∧ len = 0 ∧ cap = 0 ∧ zs = []) ∨ ∃ x, a = some x ∧ len ≤ cap ∧ cap ≤ maxLen ∧ zs.length = cap ∧ (∀ i, i < zs.length → w.cell? (x.add i) = some (.int .u8 (zs.getD i 0))) ∧ ∀ n ∈ zs, (Lit.int .u8 n).wf = true) : CodeIn w a len ∧ len ≤ maxLen := by
  rcases h with ⟨rfl, rfl, rfl, rfl⟩ | ⟨x, rfl, hl, hm, hz, hc, hw⟩
  · exact ⟨⟨fun _ => rfl, fun x hx => (by cases hx)⟩, by unfold maxLen; omega⟩
  · refine ⟨⟨fun hx => (by cases hx), fun y hy i hi => ?_⟩, Nat.le_trans hl hm⟩
    obtain rfl := Option.some.inj hy
    have hi' : i < zs.length := by omega
    have hcell := hc i hi'
    have hx' : (x.add i).block = x.block := by cases i <;> simp [Addr.add]
    have hwf := hw (zs.getD i 0) (by rw [List.getD, List.getElem?_eq_getElem hi']; exact List.getElem_mem hi')
    generalize zs.getD i 0 = n at hwf hcell
    simp [Lit.wf, IntKind.min, IntKind.max, IntKind.signed, IntKind.bits] at hwf
    refine ⟨hx' ▸ World.block_lt_of_cell? w _ hcell, n.toNat, by omega, ?_⟩
    rw [hcell, show ((n.toNat : Nat) : Int) = n by omega]
end Go.Proofs.YtphklknaagjmpaaDoor.DrawC
end
section
namespace Go.Proofs.YtphklknaagjmpaaDoor.RowC
open Go.RowKit
def cl (c : Nat → Value) (m : Nat) : List Value := (List.range m).map c
theorem cl_congr {c d : Nat → Value} {m : Nat} (h : ∀ j, j < m → c j = d j) : cl c m = cl d m := by
  unfold cl
  exact List.map_congr_left fun j hj => h j (by simpa using hj)
def RowO (W : World) (lo : Nat) (T : TypeId) (size : Nat) (v : Value) (n : Nat) (c : Nat → Value) : Prop := W.ownsRow lo T size v n (cl c (n * size))
section
variable {W W' : World} {lo : Nat} {T : TypeId} {size : Nat} {v : Value} {n : Nat} {c : Nat → Value}
theorem RowO.isSlice (h : RowO W lo T size v n c) : ∃ a cap, v = .slice a n cap := by
  rcases h.2 with ⟨rfl, rfl⟩ | ⟨g', cap', cur, rfl, _⟩
  · exact ⟨_, _, rfl⟩
  · exact ⟨_, _, rfl⟩
theorem RowO.own (h : RowO W lo T size v n c) : ∀ k, v.ownBlock = some k → lo ≤ k ∧ k < W.heap.size := World.ownsRow.lt h
theorem RowO.keep (h : RowO W lo T size v n c) (hb : ∀ k, v.ownBlock = some k → W'.heap[k]? = W.heap[k]?) : RowO W' lo T size v n c := by
  refine ⟨h.1, ?_⟩
  rcases h.2 with hn | ⟨g, cap, cur, rfl, hg, hgg, rest⟩
  · exact .inl hn
  · exact .inr ⟨g, cap, cur, rfl, hg, (hb g rfl).trans hgg, rest⟩
theorem RowO.below (h : RowO W lo T size v n c) (hb : Below W.heap.size W W') : RowO W' lo T size v n c := h.keep fun k hk => hb.block k (h.own k hk).2
theorem RowO.drew (h : RowO W lo T size v n c) : RowO W.drew lo T size v n c := h
theorem RowO.alloc (h : RowO W lo T size v n c) (o : Obj) : RowO (W.alloc o) lo T size v n c := World.ownsRow.alloc h o
theorem RowO.grown {row : Option Nat} (h : RowO W lo T size v n c) (hg : W.grownBy W' row) (hne : v.ownBlock = none ∨ v.ownBlock ≠ row) : RowO W' lo T size v n c := World.ownsRow.kept h hg hne
theorem RowO.lower {lo' : Nat} (h : RowO W lo T size v n c) (hl : lo' ≤ lo) : RowO W lo' T size v n c := by
  refine ⟨h.1, ?_⟩
  rcases h.2 with hn | ⟨g, cap, cur, rfl, hg, rest⟩
  · exact .inl hn
  · exact .inr ⟨g, cap, cur, rfl, Nat.le_trans hl hg, rest⟩
theorem RowO.congr {d : Nat → Value} (h : RowO W lo T size v n c) (hc : ∀ j, j < n * size → c j = d j) : RowO W lo T size v n d := by
  unfold RowO at h ⊢
  rw [← cl_congr hc]
  exact h
theorem RowO.nil (W : World) (lo : Nat) (T : TypeId) (size : Nat) (c : Nat → Value) : RowO W lo T size (.slice none 0 0) 0 c := ⟨by simp [cl], .inl ⟨rfl, rfl⟩⟩
end
section
variable {P : Program}
end
section
variable {P : Program}
theorem wpList_app {ops : Array Oper} {rest : List Oper} {o : Oper} {a : Act} {W : World} {Q : Exit → Act → World → Prop} (hgd : o.guard = none) (s x : Operand) (t : TypeId)
    (ho : o.op = .call { callee := .builtin .append, args := #[s, x], argTypes := #[t, t] }) {v y : Value} (hs : a.eval s = v) (hx : a.eval x = y)
    {v' : Value} {W' : World} (hr : (Builtin.append_ #[t, t] o.type #[v, y]).run P W = .ok v' W') (h : wpList P ops Q rest (a.put o.dst v') W') : wpList P ops Q (o :: rest) a W := by
  refine wpList_plain hgd fun K hK => ?_
  unfold Oper.wp execOp
  simp only [ho, resolve, invoke, builtin, Sem.run_bind, Sem.run_pure, Result.andThen_ok, List.map_toArray, List.map_cons, List.map_nil, hs, hx, hr]
  exact hK _ _ h
theorem step_app {ops : Array Oper} {o : Oper} {a : Act} {W : World} {K : Act → World → Prop} {Q : Exit → Act → World → Prop} {E : Prop} (hgd : o.guard = none) (s x : Operand) (t : TypeId)
    (ho : o.op = .call { callee := .builtin .append, args := #[s, x], argTypes := #[t, t] }) {v y : Value} (hs : a.eval s = v) (hx : a.eval x = y)
    {v' : Value} {W' : World} (hr : (Builtin.append_ #[t, t] o.type #[v, y]).run P W = .ok v' W') (h : K (a.put o.dst v') W') :
    if Region.wanted o (yielded ops a.tmps) = true then Oper.wp P o a W K Q else E := by
  have hw : Region.wanted o (yielded ops a.tmps) = true := by simp [Region.wanted, hgd]
  rw [if_pos hw]
  unfold Oper.wp execOp
  simp only [ho, resolve, invoke, builtin, Sem.run_bind, Sem.run_pure, Result.andThen_ok, List.map_toArray, List.map_cons, List.map_nil, hs, hx, hr]
  exact h
end
end Go.Proofs.YtphklknaagjmpaaDoor.RowC
end
section
namespace Go.Proofs.YtphklknaagjmpaaDoor.KeptC
open Go.RowKit
structure KS (w : World) (base : Nat) (L : List (Nat × Nat × Value)) (W : World) : Prop where
  cells : ∀ x ∈ L, W.cell? ⟨x.1, x.2.1, none⟩ = some x.2.2
  low : ∀ x ∈ L, x.1 < base
  size : base ≤ W.heap.size
  below : Below w.heap.size w W
  base : w.heap.size ≤ base
variable {w W W1 : World} {base : Nat} {L : List (Nat × Nat × Value)}
theorem KS.call (h : KS w base L W) (hb : Below W.heap.size W W1) : KS w base L W1 :=
  ⟨fun x hx => (hb.cell (p := ⟨x.1, x.2.1, none⟩) (Nat.lt_of_lt_of_le (h.low x hx) h.size)).trans (h.cells x hx), h.low, Nat.le_trans h.size hb.size, h.below.trans (hb.mono (Nat.le_trans h.base h.size)), h.base⟩
theorem KS.alloc (h : KS w base L W) (o : Obj) : KS w base L (W.alloc o) := h.call ((Below.refl _ _).alloc (Nat.le_refl _) o)
theorem KS.drew (h : KS w base L W) : KS w base L W.drew := h.call (Below.refl _ _).drew
theorem KS.set (h : KS w base L W) {b o : Nat} (hb : base ≤ b) (v : Value) : KS w base L (W.setCell ⟨b, o, none⟩ v) := by
  refine ⟨fun x hx => ?_, h.low, by simpa using h.size, h.below.setCell (Nat.le_trans h.base hb) v, h.base⟩
  have hn : (⟨b, o, none⟩ : Addr) ≠ ⟨x.1, x.2.1, none⟩ := fun e => by have := h.low x hx; injection e; omega
  rw [World.cell?_setCell_other _ _ _ _ hn]
  exact h.cells x hx
theorem KS.nil (w : World) : KS w w.heap.size [] w := ⟨fun x hx => (by cases hx), fun x hx => (by cases hx), Nat.le_refl _, Below.refl _ _, Nat.le_refl _⟩
theorem KS.at (h : KS w base L W) {b o : Nat} {v : Value} (hx : (b, o, v) ∈ L) : W.cell? ⟨b, o, none⟩ = some v := h.cells _ hx
theorem rules (hb : Below W.heap.size W W1) : (∀ b o, b < W.heap.size → W1.cell? ⟨b, o, none⟩ = W.cell? ⟨b, o, none⟩) ∧ (∀ b o, b < W.heap.size → W1.frozen? ⟨b, o, none⟩ = W.frozen? ⟨b, o, none⟩) ∧
    (∀ n, n < W.heap.size → n < W1.heap.size) ∧ (∀ n, n < W.heap.size → n ≤ W1.heap.size) :=
  ⟨fun b o h => hb.cell (p := ⟨b, o, none⟩) h, fun b o h => hb.frozen (p := ⟨b, o, none⟩) h, fun _ h => Nat.lt_of_lt_of_le h hb.size, fun _ h => Nat.le_of_lt (Nat.lt_of_lt_of_le h hb.size)⟩
theorem join {V W W1 : World} (h : Below V.heap.size V W) (k : Below W.heap.size W W1) : Below V.heap.size V W1 := h.trans (k.mono h.size)
theorem join_alloc {V W W1 : World} {o : Obj} (h : Below V.heap.size V W) (k : Below (W.alloc o).heap.size (W.alloc o) W1) : Below V.heap.size V W1 := join (h.alloc h.size o) k
theorem join_drew {V W W1 : World} (h : Below V.heap.size V W) (k : Below W.drew.heap.size W.drew W1) : Below V.heap.size V W1 := join h.drew k
end Go.Proofs.YtphklknaagjmpaaDoor.KeptC
end
section
namespace Go.Proofs.YtphklknaagjmpaaDoor.ValC
open Go.RowKit RowC
def Rg (lo hi k : Nat) : Prop := lo ≤ k ∧ k < hi
structure Off (S : Nat → Prop) (w w' : World) : Prop where
  os : w'.os = w.os
  tape : w'.tape = w.tape
  output : w'.output = w.output
  size : w.heap.size ≤ w'.heap.size
  block : ∀ k, k < w.heap.size → ¬ S k → w'.heap[k]? = w.heap[k]?
theorem Off.refl (S : Nat → Prop) (w : World) : Off S w w := ⟨rfl, rfl, rfl, Nat.le_refl _, fun _ _ _ => rfl⟩
theorem Off.trans {S : Nat → Prop} {a b c : World} (h : Off S a b) (k : Off S b c) : Off S a c :=
  ⟨k.os.trans h.os, k.tape.trans h.tape, k.output.trans h.output, Nat.le_trans h.size k.size, fun i hi hs => (k.block i (Nat.lt_of_lt_of_le hi h.size) hs).trans (h.block i hi hs)⟩
theorem Off.drew {S : Nat → Prop} {a w : World} (h : Off S a w) : Off S a w.drew := ⟨h.os, h.tape, h.output, h.size, h.block⟩
theorem Off.alloc {S : Nat → Prop} {a w : World} (h : Off S a w) (o : Obj) : Off S a (w.alloc o) := h.trans ⟨rfl, rfl, rfl, by simp, fun _ hk _ => Below.heap_alloc _ _ _ hk⟩
theorem Off.setCell {S : Nat → Prop} {a w : World} (h : Off S a w) {p : Addr} (hp : S p.block) (u : Value) : Off S a (w.setCell p u) :=
  h.trans ⟨rfl, rfl, rfl, by simp [World.setCell], fun _ _ hs => Below.heap_setCell _ _ _ _ (fun e => hs (e ▸ hp))⟩
theorem Off.below {S : Nat → Prop} {B : Nat} {w w' : World} (h : Off S w w') (hB : B ≤ w.heap.size) (hS : ∀ k, S k → B ≤ k) : Below B w w' :=
  ⟨h.os, h.tape, h.output, h.size, fun k hk => h.block k (by omega) (fun hs => by have := hS k hs; omega)⟩
theorem Off.more {S T : Nat → Prop} {w w' : World} (h : Off S w w') (hST : ∀ k, S k → T k) : Off T w w' := ⟨h.os, h.tape, h.output, h.size, fun k hk ht => h.block k hk (fun hs => ht (hST k hs))⟩
def RowV (W : World) (S : Nat → Prop) (v : Value) (n size : Nat) (c : Nat → Value) : Prop :=
  (∀ k, S k → k < W.heap.size) ∧ ∃ a cap, v = .slice a n cap ∧ n ≤ cap ∧ (0 < n → ∃ g, a = some ⟨g, 0, none⟩ ∧ S g ∧ (∀ j, j < n * size → W.cell? ⟨g, j, none⟩ = some (c j)) ∧ ∀ j, W.frozen? ⟨g, j, none⟩ = false)
section
variable {W W' : World} {S T : Nat → Prop} {v : Value} {n size : Nat} {c d : Nat → Value}
theorem RowV.keep (h : RowV W S v n size c) (hs : W.heap.size ≤ W'.heap.size) (hb : ∀ k, k < W.heap.size → S k → W'.heap[k]? = W.heap[k]?) : RowV W' S v n size c := by
  obtain ⟨h1, a, cap, h2, hnc, h3⟩ := h
  refine ⟨fun k hk => Nat.lt_of_lt_of_le (h1 k hk) hs, a, cap, h2, hnc, fun hn => ?_⟩
  obtain ⟨g, ha, hg, hc, hf⟩ := h3 hn
  have e := hb g (h1 g hg) hg
  exact ⟨g, ha, hg, fun j hj => (World.cell?_of_block (a := ⟨g, j, none⟩) e).trans (hc j hj), fun j => (World.frozen?_of_block (a := ⟨g, j, none⟩) e).trans (hf j)⟩
theorem RowV.below (h : RowV W S v n size c) (hb : Below W.heap.size W W') : RowV W' S v n size c := h.keep hb.size fun k hk _ => hb.block k hk
theorem RowV.off (h : RowV W S v n size c) (hb : Off T W W') (hd : ∀ k, T k → ¬ S k) : RowV W' S v n size c := h.keep hb.size fun k hk hs => hb.block k hk (fun ht => hd k ht hs)
theorem RowV.congr (h : RowV W S v n size c) (hc : ∀ j, j < n * size → c j = d j) : RowV W S v n size d := by
  obtain ⟨h1, a, cap, h2, hnc, h3⟩ := h
  refine ⟨h1, a, cap, h2, hnc, fun hn => ?_⟩
  obtain ⟨g, ha, hg, hcc, hf⟩ := h3 hn
  exact ⟨g, ha, hg, fun j hj => by rw [hcc j hj, hc j hj], hf⟩
theorem RowV.more (h : RowV W S v n size c) (hT : ∀ k, T k → k < W.heap.size) (hST : ∀ k, S k → T k) : RowV W T v n size c := by
  obtain ⟨h1, a, cap, h2, hnc, h3⟩ := h
  refine ⟨hT, a, cap, h2, hnc, fun hn => ?_⟩
  obtain ⟨g, ha, hg, hcc, hf⟩ := h3 hn
  exact ⟨g, ha, hST g hg, hcc, hf⟩
theorem RowV.cases {p : Prop} (h : RowV W S v n size c) (h0 : ∀ a cap, n = 0 → v = .slice a 0 cap → p)
    (h1 : ∀ g cap, 0 < n → n ≤ cap → v = .slice (some ⟨g, 0, none⟩) n cap → S g → g < W.heap.size → (∀ j, j < n * size → W.cell? ⟨g, j, none⟩ = some (c j)) → (∀ j, W.frozen? ⟨g, j, none⟩ = false) → p) : p := by
  obtain ⟨k1, a, cap, k2, hnc, k3⟩ := h
  rcases Nat.eq_zero_or_pos n with hn | hn
  · exact h0 a cap hn (by rw [k2, hn])
  · obtain ⟨g, ha, hg, hcc, hf⟩ := k3 hn
    exact h1 g cap hn hnc (by rw [k2, ha]) hg (k1 g hg) hcc hf
end
def IsB (b : Bool) (w : World) (e : Ending) (w' : World) : Prop := e = .returned (.bool b) ∧ Below w.heap.size w w'
theorem isB_elim {b : Bool} {w : World} {e : Ending} {w' : World} (h : IsB b w e w') : e = .returned (.bool b) ∧ Below w.heap.size w w' := h
end Go.Proofs.YtphklknaagjmpaaDoor.ValC
end
section
namespace Go.Proofs.YtphklknaagjmpaaDoor.RepC
open Go.RowKit RowC ValC
def CellsAt (W : World) (g o : Nat) (cs : List Value) : Prop := ∀ j c, cs[j]? = some c → W.cell? ⟨g, o + j, none⟩ = some c
theorem CellsAt.keep {W W' : World} {g o : Nat} {cs : List Value} (h : CellsAt W g o cs) (hb : W'.heap[g]? = W.heap[g]?) : CellsAt W' g o cs := fun j c hc => (World.cell?_of_block (a := ⟨g, o + j, none⟩) hb).trans (h j c hc)
theorem CellsAt.app {W : World} {g o : Nat} {cs ds : List Value} : CellsAt W g o (cs ++ ds) ↔ CellsAt W g o cs ∧ CellsAt W g (o + cs.length) ds := by
  constructor
  · intro h
    refine ⟨fun j c hc => h j c ?_, fun j c hc => ?_⟩
    · have hj := (List.getElem?_eq_some_iff.1 hc).1
      rw [List.getElem?_append_left hj]; exact hc
    · have := h (cs.length + j) c (by rw [List.getElem?_append_right (by omega)]; simpa using hc)
      rw [Nat.add_assoc]
      exact this
  · rintro ⟨h1, h2⟩ j c hc
    by_cases hj : j < cs.length
    · rw [List.getElem?_append_left hj] at hc; exact h1 j c hc
    · rw [List.getElem?_append_right (by omega)] at hc
      have := h2 _ c hc
      rw [show o + cs.length + (j - cs.length) = o + j by omega] at this
      exact this
theorem CellsAt.cons {W : World} {g o : Nat} {c : Value} {ds : List Value} : CellsAt W g o (c :: ds) ↔ W.cell? ⟨g, o, none⟩ = some c ∧ CellsAt W g (o + 1) ds := by
  constructor
  · intro h
    refine ⟨h 0 c rfl, fun j d hd => ?_⟩
    have := h (j + 1) d (by simpa using hd)
    rw [show o + (j + 1) = o + 1 + j by omega] at this
    exact this
  · rintro ⟨h1, h2⟩ j d hd
    cases j with
    | zero => simp at hd; subst hd; exact h1
    | succ j =>
      have := h2 j d (by simpa using hd)
      rw [show o + 1 + j = o + (j + 1) by omega] at this
      exact this
theorem CellsAt.nil {W : World} {g o : Nat} : CellsAt W g o [] := fun j c hc => by simp at hc
structure Rp (α : Type) where
  size : Nat
  rd : World → Nat → α → List Value → Prop
  ow : World → (Nat → Prop) → α → List Value → Prop
  mm : α → Int → Int → Prop
  mv : α → Int → Int → Prop
  cm : α → Nat
  cv : α → Nat
  sz : α → Nat
structure Ok {α : Type} (E : Rp α) : Prop where
  rd_len : ∀ {W B d cs}, E.rd W B d cs → cs.length = E.size
  ow_len : ∀ {W S d cs}, E.ow W S d cs → cs.length = E.size
  rd_below : ∀ {W W' B d cs}, E.rd W B d cs → Below B W W' → E.rd W' B d cs
  rd_more : ∀ {W B B' d cs}, E.rd W B d cs → B ≤ B' → E.rd W B' d cs
  ow_keep : ∀ {W W'} {S : Nat → Prop} {d cs}, E.ow W S d cs → (∀ k, S k → W'.heap[k]? = W.heap[k]?) → E.ow W' S d cs
  ow_more : ∀ {W} {S T : Nat → Prop} {d cs}, E.ow W S d cs → (∀ k, S k → T k) → E.ow W T d cs
  ow_rd : ∀ {W} {S : Nat → Prop} {B d cs}, E.ow W S d cs → (∀ k, S k → k < B) → E.rd W B d cs
  one : ∀ {W B d cs}, E.rd W B d cs → ∀ u ∈ cs, u.oneCell' = true
def atom {α : Type} (f : α → Value) (mm : α → Int → Int → Prop) (sz : α → Nat) : Rp α := { size := 1, rd := fun _ _ d cs => cs = [f d], ow := fun _ _ d cs => cs = [f d], mm := mm, mv := fun _ k k' => k' = k, cm := fun _ => 1, cv := fun _ => 0, sz := sz }
theorem atom_ok {α : Type} (f : α → Value) (mm : α → Int → Int → Prop) (sz : α → Nat) (h1 : ∀ d, (f d).oneCell' = true) : Ok (atom f mm sz) where
  rd_len h := by rw [show _ = [f _] from h]; rfl
  ow_len h := by rw [show _ = [f _] from h]; rfl
  rd_below h _ := h
  rd_more h _ := h
  ow_keep h _ := h
  ow_more h _ := h
  ow_rd h _ := h
  one h u hu := by rw [show _ = [f _] from h] at hu; simp at hu; subst hu; exact h1 _
def I : Rp Int := atom (fun n => .int .i64 n) (fun d k k' => d = k ∧ k' = k + 1) (fun _ => 0)
theorem I_ok : Ok I := atom_ok _ _ _ fun _ => rfl
def Bo : Rp Bool := { atom (fun b => .bool b) (fun _ k k' => k' = k) (fun _ => 0) with cm := fun _ => 0 }
def Pr {α β : Type} (E : Rp α) (F : Rp β) : Rp (α × β) where
  size := E.size + F.size
  rd W B d cs := ∃ us vs, cs = us ++ vs ∧ E.rd W B d.1 us ∧ F.rd W B d.2 vs
  ow W S d cs := ∃ us vs, ∃ S1 S2 : Nat → Prop, cs = us ++ vs ∧ (∀ k, S1 k → S k) ∧ (∀ k, S2 k → S k) ∧ (∀ k, S1 k → ¬ S2 k) ∧ E.ow W S1 d.1 us ∧ F.ow W S2 d.2 vs
  mm d k k' := ∃ k1, E.mm d.1 k k1 ∧ F.mm d.2 k1 k'
  mv d k k' := ∃ k1, E.mv d.1 k k1 ∧ F.mv d.2 k1 k'
  cm d := E.cm d.1 + F.cm d.2
  cv d := E.cv d.1 + F.cv d.2
  sz d := E.sz d.1 + F.sz d.2
theorem Pr_ok {α β : Type} {E : Rp α} {F : Rp β} (hE : Ok E) (hF : Ok F) : Ok (Pr E F) where
  rd_len h := by obtain ⟨us, vs, rfl, h1, h2⟩ := h; rw [List.length_append, hE.rd_len h1, hF.rd_len h2]; rfl
  ow_len h := by obtain ⟨us, vs, _, _, rfl, _, _, _, h1, h2⟩ := h; rw [List.length_append, hE.ow_len h1, hF.ow_len h2]; rfl
  rd_below h hb := by obtain ⟨us, vs, rfl, h1, h2⟩ := h; exact ⟨us, vs, rfl, hE.rd_below h1 hb, hF.rd_below h2 hb⟩
  rd_more h hb := by obtain ⟨us, vs, rfl, h1, h2⟩ := h; exact ⟨us, vs, rfl, hE.rd_more h1 hb, hF.rd_more h2 hb⟩
  ow_keep h hb := by
    obtain ⟨us, vs, S1, S2, rfl, a, b, c, h1, h2⟩ := h
    exact ⟨us, vs, S1, S2, rfl, a, b, c, hE.ow_keep h1 (fun k hk => hb k (a k hk)), hF.ow_keep h2 (fun k hk => hb k (b k hk))⟩
  ow_more h hT := by
    obtain ⟨us, vs, S1, S2, rfl, a, b, c, h1, h2⟩ := h
    exact ⟨us, vs, S1, S2, rfl, fun k hk => hT k (a k hk), fun k hk => hT k (b k hk), c, h1, h2⟩
  ow_rd h hB := by
    obtain ⟨us, vs, S1, S2, rfl, a, b, c, h1, h2⟩ := h
    exact ⟨us, vs, rfl, hE.ow_rd h1 (fun k hk => hB k (a k hk)), hF.ow_rd h2 (fun k hk => hB k (b k hk))⟩
  one h u hu := by
    obtain ⟨us, vs, rfl, h1, h2⟩ := h
    rcases List.mem_append.1 hu with h | h
    · exact hE.one h1 u h
    · exact hF.one h2 u h
def RdSl {α : Type} (E : Rp α) (W : World) (B : Nat) (L : List α) (a : Option Addr) (cap : Nat) : Prop :=
  L.length ≤ cap ∧ cap ≤ maxLen ∧ (0 < L.length → ∃ g o, a = some ⟨g, o, none⟩ ∧ g < B ∧ ∀ i x, L[i]? = some x → ∃ us, CellsAt W g (o + i * E.size) us ∧ E.rd W B x us)
def OwSl {α : Type} (E : Rp α) (W : World) (S : Nat → Prop) (L : List α) (a : Option Addr) (cap : Nat) : Prop :=
  L.length ≤ cap ∧ cap ≤ maxLen ∧ (0 < L.length → ∃ g, ∃ Sf : Nat → Nat → Prop, a = some ⟨g, 0, none⟩ ∧ S g ∧ (∀ j, W.frozen? ⟨g, j, none⟩ = false) ∧ (∀ i k, Sf i k → S k ∧ k ≠ g) ∧ (∀ i j k, i < j → Sf i k → ¬ Sf j k) ∧
    ∀ i x, L[i]? = some x → ∃ us, CellsAt W g (i * E.size) us ∧ E.ow W (Sf i) x us)
def mmL {α : Type} (E : Rp α) : List α → Int → Int → Prop
  | [], k, k' => k' = k
  | x :: xs, k, k' => ∃ k1, E.mm x k k1 ∧ mmL E xs k1 k'
def sumL {α : Type} (f : α → Nat) : List α → Nat
  | [] => 0
  | x :: xs => f x + sumL f xs
def Sl {α : Type} (E : Rp α) : Rp (List α) where
  size := 1
  rd W B L cs := ∃ a cap, cs = [.slice a L.length cap] ∧ RdSl E W B L a cap
  ow W S L cs := ∃ a cap, cs = [.slice a L.length cap] ∧ OwSl E W S L a cap
  mm := mmL E
  mv := mmL E
  cm := sumL E.cm
  cv := sumL E.cm
  sz L := L.length + sumL E.sz L
theorem RdSl.below {α : Type} {E : Rp α} (hE : Ok E) {W W' : World} {B : Nat} {L : List α} {a : Option Addr} {cap : Nat} (h : RdSl E W B L a cap) (hb : Below B W W') : RdSl E W' B L a cap := by
  obtain ⟨h1, h2, h3⟩ := h
  refine ⟨h1, h2, fun hn => ?_⟩
  obtain ⟨g, o, ha, hg, hc⟩ := h3 hn
  refine ⟨g, o, ha, hg, fun i x hx => ?_⟩
  obtain ⟨us, hu, hr⟩ := hc i x hx
  exact ⟨us, hu.keep (hb.block g hg), hE.rd_below hr hb⟩
theorem RdSl.more {α : Type} {E : Rp α} (hE : Ok E) {W : World} {B B' : Nat} {L : List α} {a : Option Addr} {cap : Nat} (h : RdSl E W B L a cap) (hb : B ≤ B') : RdSl E W B' L a cap := by
  obtain ⟨h1, h2, h3⟩ := h
  refine ⟨h1, h2, fun hn => ?_⟩
  obtain ⟨g, o, ha, hg, hc⟩ := h3 hn
  refine ⟨g, o, ha, Nat.lt_of_lt_of_le hg hb, fun i x hx => ?_⟩
  obtain ⟨us, hu, hr⟩ := hc i x hx
  exact ⟨us, hu, hE.rd_more hr hb⟩
theorem OwSl.keep {α : Type} {E : Rp α} (hE : Ok E) {W W' : World} {S : Nat → Prop} {L : List α} {a : Option Addr} {cap : Nat} (h : OwSl E W S L a cap) (hb : ∀ k, S k → W'.heap[k]? = W.heap[k]?) : OwSl E W' S L a cap := by
  obtain ⟨h1, h2, h3⟩ := h
  refine ⟨h1, h2, fun hn => ?_⟩
  obtain ⟨g, Sf, ha, hg, hf, hs, hd, hc⟩ := h3 hn
  refine ⟨g, Sf, ha, hg, fun j => (World.frozen?_of_block (a := ⟨g, j, none⟩) (hb g hg)).trans (hf j), hs, hd, fun i x hx => ?_⟩
  obtain ⟨us, hu, hr⟩ := hc i x hx
  exact ⟨us, hu.keep (hb g hg), hE.ow_keep hr (fun k hk => hb k (hs i k hk).1)⟩
theorem OwSl.more {α : Type} {E : Rp α} {W : World} {S T : Nat → Prop} {L : List α} {a : Option Addr} {cap : Nat} (h : OwSl E W S L a cap) (hT : ∀ k, S k → T k) : OwSl E W T L a cap := by
  obtain ⟨h1, h2, h3⟩ := h
  refine ⟨h1, h2, fun hn => ?_⟩
  obtain ⟨g, Sf, ha, hg, hf, hs, hd, hc⟩ := h3 hn
  exact ⟨g, Sf, ha, hT g hg, hf, fun i k hk => ⟨hT k (hs i k hk).1, (hs i k hk).2⟩, hd, hc⟩
theorem OwSl.rd {α : Type} {E : Rp α} (hE : Ok E) {W : World} {S : Nat → Prop} {B : Nat} {L : List α} {a : Option Addr} {cap : Nat} (h : OwSl E W S L a cap) (hB : ∀ k, S k → k < B) : RdSl E W B L a cap := by
  obtain ⟨h1, h2, h3⟩ := h
  refine ⟨h1, h2, fun hn => ?_⟩
  obtain ⟨g, Sf, ha, hg, hf, hs, hd, hc⟩ := h3 hn
  refine ⟨g, 0, ha, hB g hg, fun i x hx => ?_⟩
  obtain ⟨us, hu, hr⟩ := hc i x hx
  exact ⟨us, by rw [Nat.zero_add]; exact hu, hE.ow_rd hr (fun k hk => hB k (hs i k hk).1)⟩
theorem Sl_ok {α : Type} {E : Rp α} (hE : Ok E) : Ok (Sl E) where
  rd_len h := by obtain ⟨a, cap, rfl, _⟩ := h; rfl
  ow_len h := by obtain ⟨a, cap, rfl, _⟩ := h; rfl
  rd_below h hb := by obtain ⟨a, cap, rfl, h⟩ := h; exact ⟨a, cap, rfl, h.below hE hb⟩
  rd_more h hb := by obtain ⟨a, cap, rfl, h⟩ := h; exact ⟨a, cap, rfl, h.more hE hb⟩
  ow_keep h hb := by obtain ⟨a, cap, rfl, h⟩ := h; exact ⟨a, cap, rfl, h.keep hE hb⟩
  ow_more h hT := by obtain ⟨a, cap, rfl, h⟩ := h; exact ⟨a, cap, rfl, h.more hT⟩
  ow_rd h hB := by obtain ⟨a, cap, rfl, h⟩ := h; exact ⟨a, cap, rfl, h.rd hE hB⟩
  one h u hu := by obtain ⟨a, cap, rfl, h⟩ := h; simp at hu; subst hu; rfl
theorem RdSl.at_ {α : Type} {E : Rp α} {W : World} {B : Nat} {L : List α} {a : Option Addr} {cap : Nat} (h : RdSl E W B L a cap) {i : Nat} {x : α} (hx : L[i]? = some x) :
    ∃ g o us, a = some ⟨g, o, none⟩ ∧ g < B ∧ CellsAt W g (o + i * E.size) us ∧ E.rd W B x us := by
  have hi := (List.getElem?_eq_some_iff.1 hx).1
  obtain ⟨g, o, ha, hg, hc⟩ := h.2.2 (by omega)
  obtain ⟨us, hu, hr⟩ := hc i x hx
  exact ⟨g, o, us, ha, hg, hu, hr⟩
end Go.Proofs.YtphklknaagjmpaaDoor.RepC
end
section
namespace Go.Proofs.YtphklknaagjmpaaDoor.RepC
open Go.RowKit RowC ValC
def putCells (W : World) (g : Nat) : Nat → List Value → World
  | _, [] => W
  | o, c :: cs => putCells (W.setCell ⟨g, o, none⟩ c) g (o + 1) cs
theorem putCells_size (g : Nat) : ∀ (cs : List Value) (W : World) (o : Nat), (putCells W g o cs).heap.size = W.heap.size
  | [], _, _ => rfl
  | c :: cs, W, o => by simp only [putCells]; rw [putCells_size g cs]; simp [World.setCell]
theorem putCells_frozen (g : Nat) (p : Addr) : ∀ (cs : List Value) (W : World) (o : Nat), (putCells W g o cs).frozen? p = W.frozen? p
  | [], _, _ => rfl
  | c :: cs, W, o => by simp only [putCells]; rw [putCells_frozen g p cs]; simp
theorem putCells_block (g : Nat) {k : Nat} (hk : k ≠ g) : ∀ (cs : List Value) (W : World) (o : Nat), (putCells W g o cs).heap[k]? = W.heap[k]?
  | [], _, _ => rfl
  | c :: cs, W, o => by simp only [putCells]; rw [putCells_block g hk cs]; exact Below.heap_setCell _ _ _ _ hk
theorem putCells_off (g : Nat) : ∀ (cs : List Value) (W : World) (o : Nat), Off (fun x => x = g) W (putCells W g o cs)
  | [], W, _ => Off.refl _ _
  | c :: cs, W, o => by simp only [putCells]; exact (Off.setCell (S := fun x => x = g) (p := ⟨g, o, none⟩) (Off.refl _ W) rfl c).trans (putCells_off g cs _ _)
theorem putCells_other (g : Nat) {j : Nat} : ∀ (cs : List Value) (W : World) (o : Nat), (j < o ∨ o + cs.length ≤ j) → (putCells W g o cs).cell? ⟨g, j, none⟩ = W.cell? ⟨g, j, none⟩
  | [], _, _, _ => rfl
  | c :: cs, W, o, h => by
    simp only [List.length_cons] at h
    simp only [putCells]
    rw [putCells_other g cs _ _ (by omega), World.cell?_setCell_other _ _ _ _ (fun e => by injection e with _ e2; omega)]
theorem putCells_cells (g : Nat) : ∀ (cs : List Value) (W : World) (o : Nat), (∀ j, j < cs.length → ∃ u, W.cell? ⟨g, o + j, none⟩ = some u) → CellsAt (putCells W g o cs) g o cs
  | [], _, _, _ => CellsAt.nil
  | c :: cs, W, o, h => by
    simp only [putCells]
    refine CellsAt.cons.2 ⟨?_, putCells_cells g cs _ _ fun j hj => ?_⟩
    · obtain ⟨u, hu⟩ := h 0 (by simp)
      rw [putCells_other g cs _ _ (by omega)]
      exact World.cell?_setCell_same' _ _ _ (by rw [show W.cell? ⟨g, o, none⟩ = _ from hu]; rfl)
    · obtain ⟨u, hu⟩ := h (j + 1) (by simp only [List.length_cons]; omega)
      rw [World.cell?_setCell_other _ _ _ _ (fun e => by injection e with _ e2; omega), show o + 1 + j = o + (j + 1) by omega]
      exact ⟨u, hu⟩
structure Upd (W W' : World) (g lo hi : Nat) (T : Nat → Prop) : Prop where
  size : W.heap.size ≤ W'.heap.size
  block : ∀ k, k < W.heap.size → k ≠ g → ¬ T k → W'.heap[k]? = W.heap[k]?
  cells : ∀ j, (j < lo ∨ hi ≤ j) → W'.cell? ⟨g, j, none⟩ = W.cell? ⟨g, j, none⟩
  soft : ∀ j, W'.frozen? ⟨g, j, none⟩ = W.frozen? ⟨g, j, none⟩
theorem Upd.refl (W : World) (g lo hi : Nat) (T : Nat → Prop) : Upd W W g lo hi T := ⟨Nat.le_refl _, fun _ _ _ _ => rfl, fun _ _ => rfl, fun _ => rfl⟩
theorem Upd.trans {W W' W'' : World} {g lo hi : Nat} {T : Nat → Prop} (h : Upd W W' g lo hi T) (k : Upd W' W'' g lo hi T) : Upd W W'' g lo hi T :=
  ⟨Nat.le_trans h.size k.size, fun i h1 h2 h3 => (k.block i (Nat.lt_of_lt_of_le h1 h.size) h2 h3).trans (h.block i h1 h2 h3), fun j hj => (k.cells j hj).trans (h.cells j hj), fun j => (k.soft j).trans (h.soft j)⟩
theorem Upd.set (W : World) {g lo hi o : Nat} (T : Nat → Prop) (h : lo ≤ o ∧ o < hi) (u : Value) : Upd W (W.setCell ⟨g, o, none⟩ u) g lo hi T :=
  ⟨by simp [World.setCell], fun k _ hk _ => Below.heap_setCell _ _ _ _ hk, fun j hj => World.cell?_setCell_other _ _ _ _ (fun e => by injection e with _ e2; omega), fun j => by simp⟩
theorem Upd.put (W : World) {g lo hi o : Nat} (T : Nat → Prop) {cs : List Value} (h : lo ≤ o ∧ o + cs.length ≤ hi) : Upd W (putCells W g o cs) g lo hi T :=
  ⟨by rw [putCells_size]; exact Nat.le_refl _, fun k _ hk _ => putCells_block g hk cs W o, fun j hj => putCells_other g cs W o (by omega), fun j => putCells_frozen g _ cs W o⟩
theorem Upd.below {W W' : World} {g lo hi : Nat} {T : Nat → Prop} (h : Below W.heap.size W W') (hg : g < W.heap.size) : Upd W W' g lo hi T :=
  ⟨h.size, fun k hk _ _ => h.block k hk, fun j _ => h.cell (p := ⟨g, j, none⟩) hg, fun j => h.frozen (p := ⟨g, j, none⟩) hg⟩
theorem Upd.off {W W' : World} {g lo hi : Nat} {T : Nat → Prop} (h : Off T W W') (hg : g < W.heap.size) (hT : ¬ T g) : Upd W W' g lo hi T :=
  ⟨h.size, fun k hk _ ht => h.block k hk ht, fun j _ => World.cell?_of_block (a := ⟨g, j, none⟩) (h.block g hg hT), fun j => World.frozen?_of_block (a := ⟨g, j, none⟩) (h.block g hg hT)⟩
structure Row {α : Type} (E : Rp α) (W : World) (S : Nat → Prop) (L : List α) (g : Nat) (Sf : Nat → Nat → Prop) : Prop where
  own : S g
  soft : ∀ j, W.frozen? ⟨g, j, none⟩ = false
  sub : ∀ i k, Sf i k → S k ∧ k ≠ g
  dis : ∀ i j k, i < j → Sf i k → ¬ Sf j k
  el : ∀ i x, L[i]? = some x → ∃ us, CellsAt W g (i * E.size) us ∧ E.ow W (Sf i) x us
theorem OwSl.row {α : Type} {E : Rp α} {W : World} {S : Nat → Prop} {L : List α} {a : Option Addr} {cap : Nat} (h : OwSl E W S L a cap) (hn : 0 < L.length) : ∃ g Sf, a = some ⟨g, 0, none⟩ ∧ Row E W S L g Sf := by
  obtain ⟨g, Sf, ha, hg, hf, hs, hd, hc⟩ := h.2.2 hn
  exact ⟨g, Sf, ha, hg, hf, hs, hd, hc⟩
theorem Row.slice {α : Type} {E : Rp α} {W : World} {S : Nat → Prop} {L : List α} {g : Nat} {Sf : Nat → Nat → Prop} (h : Row E W S L g Sf) {cap : Nat} (h1 : L.length ≤ cap) (h2 : cap ≤ maxLen) : OwSl E W S L (some ⟨g, 0, none⟩) cap :=
  ⟨h1, h2, fun _ => ⟨g, Sf, rfl, h.own, h.soft, h.sub, h.dis, h.el⟩⟩
theorem mul_lt_el {i j p s : Nat} (hp : p < s) (hij : i ≠ j) : j * s + p < i * s ∨ (i + 1) * s ≤ j * s + p := by
  rcases Nat.lt_or_gt_of_ne hij with h | h
  · right
    have := Nat.mul_le_mul_right s (show i + 1 ≤ j by omega)
    omega
  · left
    have := Nat.mul_le_mul_right s (show j + 1 ≤ i by omega)
    rw [Nat.add_mul] at this
    omega
theorem Row.set {α : Type} {E : Rp α} (hE : Ok E) {W W' : World} {S : Nat → Prop} {L : List α} {g i : Nat} {Sf : Nat → Nat → Prop} {x : α} {us : List Value} (h : Row E W S L g Sf) (hS : ∀ k, S k → k < W.heap.size) (hU : Upd W W' g (i * E.size) ((i + 1) * E.size) (Sf i))
    (hc : CellsAt W' g (i * E.size) us) (hr : E.ow W' (Sf i) x us) : Row E W' S (L.set i x) g Sf := by
  refine ⟨h.own, fun j => (hU.soft j).trans (h.soft j), h.sub, h.dis, fun j y hy => ?_⟩
  by_cases e : i = j
  · subst e
    rw [List.getElem?_set] at hy
    split at hy
    · split at hy
      · injection hy with hy
        subst hy
        exact ⟨us, hc, hr⟩
      · cases hy
    · exact absurd rfl ‹_›
  · rw [List.getElem?_set_ne e] at hy
    obtain ⟨vs, hv, hw⟩ := h.el j y hy
    refine ⟨vs, fun p c hp => ?_, hE.ow_keep hw fun k hk => hU.block k (hS k (h.sub j k hk).1) (h.sub j k hk).2 (fun hi => ?_)⟩
    · have hl := (List.getElem?_eq_some_iff.1 hp).1
      rw [hE.ow_len hw] at hl
      rw [hU.cells _ (mul_lt_el hl e)]
      exact hv p c hp
    · rcases Nat.lt_or_gt_of_ne e with e2 | e2
      · exact h.dis i j k e2 hi hk
      · exact h.dis j i k e2 hk hi
structure Fil {α : Type} (E : Rp α) (w W : World) (L : List α) (g : Nat) (Sf : Nat → Nat → Prop) (k : Nat) : Prop where
  el : ∀ i x, i < k → L[i]? = some x → ∃ us, CellsAt W g (i * E.size) us ∧ E.ow W (Sf i) x us
  there : ∀ j, j < L.length * E.size → ∃ u, W.cell? ⟨g, j, none⟩ = some u
  soft : ∀ j, W.frozen? ⟨g, j, none⟩ = false
  sub : ∀ i q, Sf i q → g < q ∧ q < W.heap.size ∧ i < k
  dis : ∀ i j q, i < j → Sf i q → ¬ Sf j q
  base : w.heap.size ≤ g
  lt : g < W.heap.size
  below : Below g w W
theorem Fil.new {α : Type} {E : Rp α} {w : World} {L : List α} {cs : Array Value} {t : TypeId} (hs : cs.size = L.length * E.size) : Fil E w (w.alloc (.cells cs t)) L w.heap.size (fun _ _ => False) 0 :=
  ⟨fun i x h => absurd h (Nat.not_lt_zero _), fun j hj => ⟨cs[j]'(by omega), by simp [World.cell?_alloc_new, show j < cs.size by omega]⟩, fun j => by simp, fun i q h => h.elim, fun i j q _ h => h.elim, Nat.le_refl _, by simp, (Below.refl _ _).alloc (Nat.le_refl _) _⟩
theorem Fil.put {α : Type} {E : Rp α} (hE : Ok E) {w W W1 : World} {L : List α} {g k : Nat} {Sf : Nat → Nat → Prop} {x : α} {us : List Value} (h : Fil E w W L g Sf k) (hx : L[k]? = some x) (hb : Below W.heap.size W W1) (hr : E.ow W1 (Rg W.heap.size W1.heap.size) x us) :
    Fil E w (putCells W1 g (k * E.size) us) L g (fun i q => if i = k then Rg W.heap.size W1.heap.size q else Sf i q) (k + 1) := by
  have hk := (List.getElem?_eq_some_iff.1 hx).1
  have hlen := hE.ow_len hr
  have hsz := hb.size
  have hgl := h.lt
  have hmul : (k + 1) * E.size ≤ L.length * E.size := Nat.mul_le_mul_right _ (by omega)
  rw [Nat.add_mul, Nat.one_mul] at hmul
  have there1 : ∀ j, j < L.length * E.size → ∃ u, W1.cell? ⟨g, j, none⟩ = some u := fun j hj => by
    obtain ⟨u, hu⟩ := h.there j hj
    exact ⟨u, (hb.cell (p := ⟨g, j, none⟩) hgl).trans hu⟩
  have apart : ∀ q, Rg W.heap.size W1.heap.size q → q ≠ g := fun q hq => by unfold Rg at hq; omega
  refine ⟨fun i y hi hy => ?_, fun j hj => ?_, fun j => ?_, fun i q hq => ?_, fun i j q hij hi => ?_, h.base, by rw [putCells_size]; omega, ?_⟩
  · by_cases e : i = k
    · subst e
      rw [hx] at hy
      injection hy with hy
      subst hy
      refine ⟨us, putCells_cells g us W1 _ fun j hj => there1 _ (by rw [hlen] at hj; omega), ?_⟩
      simp only [if_true]
      exact hE.ow_keep hr fun q hq => putCells_block g (apart q hq) us W1 _
    · obtain ⟨vs, hv, hw⟩ := h.el i y (by omega) hy
      refine ⟨vs, fun p c hp => ?_, ?_⟩
      · have hl := (List.getElem?_eq_some_iff.1 hp).1
        rw [hE.ow_len hw] at hl
        have h1 := mul_lt_el (i := k) (j := i) hl (Ne.symm e)
        rw [Nat.add_mul, Nat.one_mul] at h1
        rw [putCells_other g us W1 _ (by omega)]
        exact (hb.cell (p := ⟨g, _, none⟩) hgl).trans (hv p c hp)
      · simp only [e, if_false]
        refine hE.ow_keep (hE.ow_keep hw fun q hq => hb.block q (h.sub i q hq).2.1) fun q hq => putCells_block g (by have := (h.sub i q hq).1; omega) us W1 _
  · obtain ⟨u, hu⟩ := there1 j hj
    by_cases hin : j < k * E.size ∨ k * E.size + us.length ≤ j
    · exact ⟨u, (putCells_other g us W1 _ hin).trans hu⟩
    · have hc := putCells_cells g us W1 (k * E.size) fun j hj => there1 _ (by rw [hlen] at hj; omega)
      have hj2 : j - k * E.size < us.length := by omega
      refine ⟨us[j - k * E.size], ?_⟩
      have := hc (j - k * E.size) _ (List.getElem?_eq_getElem hj2)
      rw [show k * E.size + (j - k * E.size) = j by omega] at this
      exact this
  · rw [putCells_frozen]
    exact (hb.frozen (p := ⟨g, j, none⟩) hgl).trans (h.soft j)
  · rw [putCells_size]
    by_cases e : i = k
    · simp only [e, if_true] at hq
      unfold Rg at hq
      omega
    · simp only [e, if_false] at hq
      have := h.sub i q hq
      omega
  · by_cases e1 : i = k
    · subst e1
      simp only [if_true] at hi
      have e2 : j ≠ i := by omega
      simp only [e2, if_false]
      intro hj
      have := (h.sub j q hj).2.2
      omega
    · simp only [e1, if_false] at hi
      by_cases e2 : j = k
      · simp only [e2, if_true]
        have := (h.sub i q hi).2.1
        unfold Rg
        omega
      · simp only [e2, if_false]
        exact h.dis i j q hij hi
  · exact (h.below.trans (hb.mono (by omega))).trans ((putCells_off g us W1 _).below (by omega) (fun k hk => by rw [hk]; exact Nat.le_refl _))
theorem Fil.done {α : Type} {E : Rp α} {w W : World} {L : List α} {g : Nat} {Sf : Nat → Nat → Prop} (h : Fil E w W L g Sf L.length) : Row E W (Rg w.heap.size W.heap.size) L g Sf :=
  ⟨⟨h.base, h.lt⟩, h.soft, fun i k hk => ⟨⟨by have := (h.sub i k hk).1; have := h.base; omega, (h.sub i k hk).2.1⟩, by have := (h.sub i k hk).1; omega⟩, h.dis, fun i x hx => h.el i x (List.getElem?_eq_some_iff.1 hx).1 hx⟩
end Go.Proofs.YtphklknaagjmpaaDoor.RepC
end
section
namespace Go.Proofs.YtphklknaagjmpaaDoor.RepC
open Go.RowKit RowC ValC
set_option linter.unusedVariables false
def Blk (w : World) (g : Nat) (t : TypeId) (cs : Array Value) : Prop := w.heap[g]? = some (.cells cs t (0, 0))
section
variable {w w' : World} {g : Nat} {t : TypeId} {cs : Array Value}
theorem Blk.lt (h : Blk w g t cs) : g < w.heap.size := (Array.getElem?_eq_some_iff.1 h).1
theorem Blk.at_ (h : Blk w g t cs) (i : Nat) {v : Value} (hv : cs[i]? = some v) : w.cell? ⟨g, i, none⟩ = some v := (cell_of_row w g i cs t (0, 0) h).trans hv
theorem Blk.soft (h : Blk w g t cs) (i : Nat) : w.frozen? ⟨g, i, none⟩ = false := by
  unfold Blk at h
  simp [World.frozen?, h]
theorem Blk.new (w : World) (t : TypeId) (cs : Array Value) : Blk (w.alloc (.cells cs t)) w.heap.size t cs := heap_alloc_new w _
theorem Blk.alloc (h : Blk w g t cs) (o : Obj) : Blk (w.alloc o) g t cs := (Below.heap_alloc w o g h.lt).trans h
theorem Blk.set (h : Blk w g t cs) (i : Nat) (u : Value) : Blk (w.setCell ⟨g, i, none⟩ u) g t (cs.setIfInBounds i u) := by
  unfold Blk at h ⊢
  simp [World.setCell, Array.getElem?_modify, h]
theorem Blk.far (h : Blk w g t cs) {b o : Nat} (hp : g ≠ b) (u : Value) : Blk (w.setCell ⟨b, o, none⟩ u) g t cs := (Below.heap_setCell w ⟨b, o, none⟩ u g hp).trans h
theorem Blk.call (h : Blk w g t cs) (hb : Below w.heap.size w w') : Blk w' g t cs := (hb.block g h.lt).trans h
theorem Blk.as (h : Blk w g t cs) {ds : Array Value} (e : cs = ds) : Blk w g t ds := e ▸ h
end
theorem sumL_zero {α : Type} {f : α → Nat} (h : ∀ x, f x = 0) : ∀ L : List α, sumL f L = 0
  | [] => rfl
  | x :: xs => by simp only [sumL, h x, sumL_zero h xs]
def MarkR {α : Type} (E : Rp α) (S : Nat → Prop) (L : List α) (a : Option Addr) (cap : Nat) (k : Int) (w : World) (e : Ending) (w' : World) : Prop :=
  ∃ L' k', e = .returned (.int .i64 k') ∧ L'.length = L.length ∧ mmL E L' k k' ∧ k' = k + (sumL E.cm L : Nat) ∧ OwSl E w' S L' a cap ∧ Off S w w'
structure Mkd {α : Type} (E : Rp α) (W wr : World) (S : Nat → Prop) (L : List α) (g : Nat) (Sf : Nat → Nat → Prop) (k q : Int) (j : Nat) (M : List α) : Prop where
  len : M.length = L.length
  rest : ∀ p, j ≤ p → M[p]? = L[p]?
  mm : mmL E (M.take j) k q
  num : q = k + (sumL E.cm (L.take j) : Nat)
  row : Row E wr S M g Sf
  off : Off S W wr
theorem Mkd.done {α : Type} {E : Rp α} {W wr : World} {S : Nat → Prop} {L M : List α} {g cap : Nat} {Sf : Nat → Nat → Prop} {k q : Int} (h : Mkd E W wr S L g Sf k q L.length M) (h1 : L.length ≤ cap) (h2 : cap ≤ maxLen) : MarkR E S L (some ⟨g, 0, none⟩) cap k W (.returned (.int .i64 q)) wr := by
  refine ⟨M, q, rfl, h.len, ?_, ?_, h.row.slice (by rw [h.len]; exact h1) h2, h.off⟩
  · have := h.mm
    rw [← h.len, List.take_length] at this
    exact this
  · have := h.num
    rw [List.take_length] at this
    exact this
theorem Mkd.el {α : Type} {E : Rp α} {W wr : World} {S : Nat → Prop} {L M : List α} {g j : Nat} {Sf : Nat → Nat → Prop} {k q : Int} {x : α} (h : Mkd E W wr S L g Sf k q j M) (hx : L[j]? = some x) : ∃ us, CellsAt wr g (j * E.size) us ∧ E.ow wr (Sf j) x us :=
  h.row.el j x (by rw [h.rest j (Nat.le_refl _)]; exact hx)
theorem MarkR.none_ {α : Type} {E : Rp α} {W : World} {S : Nat → Prop} {L : List α} {a : Option Addr} {cap : Nat} {k : Int} (h : OwSl E W S L a cap) (h0 : L.length = 0) : MarkR E S L a cap k W (.returned (.int .i64 k)) W := by
  obtain rfl := List.eq_nil_of_length_eq_zero h0
  exact ⟨[], k, rfl, rfl, rfl, by simp [sumL], h, Off.refl _ _⟩
def NewV {α : Type} (E : Rp α) (d : α) (w : World) (e : Ending) (w' : World) : Prop := ∃ us : List Value, e = .returned (.agg us.toArray) ∧ E.ow w' (Rg w.heap.size w'.heap.size) d us ∧ Below w.heap.size w w'
theorem newV_elim {α : Type} {E : Rp α} {d : α} {w : World} {e : Ending} {w' : World} (h : NewV E d w e w') : ∃ us : List Value, e = .returned (.agg us.toArray) ∧ E.ow w' (Rg w.heap.size w'.heap.size) d us ∧ Below w.heap.size w w' := h
def NewS {α : Type} (E : Rp α) (L : List α) (w : World) (e : Ending) (w' : World) : Prop := ∃ a cap, e = .returned (.slice a L.length cap) ∧ OwSl E w' (Rg w.heap.size w'.heap.size) L a cap ∧ Below w.heap.size w w'
theorem newS_elim {α : Type} {E : Rp α} {L : List α} {w : World} {e : Ending} {w' : World} (h : NewS E L w e w') : ∃ a cap, e = .returned (.slice a L.length cap) ∧ OwSl E w' (Rg w.heap.size w'.heap.size) L a cap ∧ Below w.heap.size w w' := h
theorem Fil.news {α : Type} {E : Rp α} {w W : World} {L : List α} {Sf : Nat → Nat → Prop} (h : Fil E w W L w.heap.size Sf L.length) (hn : L.length ≤ maxLen) : NewS E L w (.returned (.slice (some ⟨w.heap.size, 0, none⟩) L.length L.length)) W :=
  ⟨_, _, rfl, h.done.slice (Nat.le_refl _) hn, h.below⟩
theorem el_some {α : Type} {L : List α} {k : Nat} (h : k < L.length) : ∃ x, L[k]? = some x := ⟨L[k], List.getElem?_eq_getElem h⟩
theorem el_lt {α : Type} {L : List α} {k : Nat} {x : α} (h : L[k]? = some x) : k < L.length := (List.getElem?_eq_some_iff.1 h).1
end Go.Proofs.YtphklknaagjmpaaDoor.RepC
end
