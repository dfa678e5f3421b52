/- One element more at the end of a row of the call's own, elements without memory: general in the type. -/
import Derived.Test.YtdimpopkkjpddaaDoorLApp
import Derived.Test.YtdimpopkkjpddaaDoorDeskG
namespace Go.Proofs.YtdimpopkkjpddaaDoor.RepC
open Go.RowKit RowC ValC
set_option linter.unusedVariables false
set_option maxRecDepth 100000

theorem below_own {B : Nat} {w w' : World} {v : Value} (h : w.grownBy w' v.ownBlock) (hv : ∀ k, v.ownBlock = some k → B ≤ k) (hB : B ≤ w.heap.size) : Below B w w' :=
  ⟨h.os, h.tape, h.output, h.size, fun k hk => h.block k (Nat.lt_of_lt_of_le hk hB) (fun e => by have := hv k e.symm; omega)⟩
theorem app_el {P : Program} {α : Type} {E : Rp α} (hE : Ok E) {w : World} {lo hi : Nat} {T : TypeId} {v : Value} {L : List α} {xs : List Value} {Sf : Nat → Nat → Prop} (h : App E w lo hi T v L xs Sf) {t ty : TypeId} {i : TypeInfo} {z : Value} {bytes : Nat} (ht : P.underlying t = some (.slice T)) (hi' : P.info? T = some i) (hz : i.zero = some z) (hsize : i.size = E.size) (hby : i.bytes = bytes) (hzs : z.cells.size = E.size) (hpos : 0 < E.size)
    {x : α} {cs : Array Value} (hx : ∀ w' : World, E.ow w' (fun _ => False) x cs.toList) (hlo : lo ≤ hi) (hL : L.length + 1 ≤ maxLen) (hLb : (L.length + 1) * bytes ≤ 140737488355328) :
    ∃ a c w' xs' Sf', (Builtin.append_ #[t, t] ty #[v, .slice (some ⟨w.heap.size, 0, none⟩) 1 1]).run P (w.alloc (.cells cs T)) = .ok (.slice a (L ++ [x]).length c) w' ∧ App E w' lo w'.heap.size T (.slice a (L ++ [x]).length c) (L ++ [x]) xs' Sf' ∧ Below lo w w' := by
  have hb := Blk.new w T cs
  have hbl : Below w.heap.size w (w.alloc (.cells cs T)) := (Below.refl _ _).alloc (Nat.le_refl _) _
  have h1 := h.call hE hbl
  obtain ⟨v', w', xs', Sf', hr, hA, hg, _, _⟩ := h1.app2 (P := P) hE ht hi' hz hsize hby hzs hpos (x := x) (us := cs.toList) (Sx := fun _ => False) (blk := w.heap.size) (c := 1) (ty := ty) (fun p y hp => hb.at_ p (by simpa using hp)) (hx _) (fun k hk => hk.elim) hlo hL hLb
  obtain ⟨a, c, rfl⟩ := hA.isSlice
  have hle := h.le
  exact ⟨a, c, w', xs', Sf', hr, hA, (hbl.mono (by omega)).trans (below_own hg (fun k hk => (h.blk k hk).1) (by have := hbl.size; omega))⟩
theorem App.new_ {α : Type} {E : Rp α} {w0 w : World} {hi : Nat} {T : TypeId} {a : Option Addr} {c : Nat} {L : List α} {xs : List Value} {Sf : Nat → Nat → Prop} (h : App E w w0.heap.size hi T (.slice a L.length c) L xs Sf) (hb : Below w0.heap.size w0 w) : NewS E L w0 (.returned (.slice a L.length c)) w := by
  obtain ⟨a', c', e, ho⟩ := h.done
  cases e
  exact ⟨a, c, rfl, ho.more fun k hk => ⟨hk.1, Nat.lt_of_lt_of_le hk.2 h.le⟩, hb⟩
theorem infoLetter : ∃ i, Tryd.prog.info? 81 = some i ∧ i.zero = some (.agg #[.int .i64 0, .int .i64 0, .int .i64 0, .int .i64 0, .int .i64 0, .int .i64 0]) ∧ i.size = 6 ∧ i.bytes = 48 := by
  have h : (Tryd.prog.info? 81).map (fun i => (i.zero, i.size, i.bytes)) = some (some (.agg #[.int .i64 0, .int .i64 0, .int .i64 0, .int .i64 0, .int .i64 0, .int .i64 0]), 6, 48) := by kernel_rfl
  cases hx : Tryd.prog.info? 81 with
  | none => rw [hx] at h; simp at h
  | some i => rw [hx] at h; simp at h; exact ⟨i, rfl, h.1, h.2.1, h.2.2⟩
theorem infoI64 : ∃ i, Tryd.prog.info? 2 = some i ∧ i.zero = some (.int .i64 0) ∧ i.size = 1 ∧ i.bytes = 8 := by
  have h : (Tryd.prog.info? 2).map (fun i => (i.zero, i.size, i.bytes)) = some (some (.int .i64 0), 1, 8) := by kernel_rfl
  cases hx : Tryd.prog.info? 2 with
  | none => rw [hx] at h; simp at h
  | some i => rw [hx] at h; simp at h; exact ⟨i, rfl, h.1, h.2.1, h.2.2⟩
/-- a letter more -/
theorem app_letter {w : World} {lo hi : Nat} {v : Value} {L : List D_Letter} {xs : List Value} {Sf : Nat → Nat → Prop} (h : App R_Letter w lo hi 81 v L xs Sf) (x0 x1 x2 x3 x4 x5 : Int) (hlo : lo ≤ hi) (hL : L.length + 1 ≤ 2932031007402) :
    ∃ a c w' xs' Sf', (Builtin.append_ #[32, 32] 32 #[v, .slice (some ⟨w.heap.size, 0, none⟩) 1 1]).run Tryd.prog (w.alloc (.cells #[.int .i64 x0, .int .i64 x1, .int .i64 x2, .int .i64 x3, .int .i64 x4, .int .i64 x5] 81)) = .ok (.slice a (L ++ [((x0, x1), (x2, x3), x4, x5)]).length c) w' ∧ App R_Letter w' lo w'.heap.size 81 (.slice a (L ++ [((x0, x1), (x2, x3), x4, x5)]).length c) (L ++ [((x0, x1), (x2, x3), x4, x5)]) xs' Sf' ∧ Below lo w w' := by
  obtain ⟨i, hi', hz, hs, hby⟩ := infoLetter
  exact app_el R_Letter_ok h Tryd.underlying32 hi' hz hs hby rfl (by decide) (fun w' => mkow_Letter) hlo (by unfold maxLen; omega) (by omega)
/-- a number more -/
theorem app_int {w : World} {lo hi : Nat} {v : Value} {L : List Int} {xs : List Value} {Sf : Nat → Nat → Prop} (h : App I w lo hi 2 v L xs Sf) (x : Int) (hlo : lo ≤ hi) (hL : L.length + 1 ≤ 17592186044416) :
    ∃ a c w' xs' Sf', (Builtin.append_ #[46, 46] 46 #[v, .slice (some ⟨w.heap.size, 0, none⟩) 1 1]).run Tryd.prog (w.alloc (.cells #[.int .i64 x] 2)) = .ok (.slice a (L ++ [x]).length c) w' ∧ App I w' lo w'.heap.size 2 (.slice a (L ++ [x]).length c) (L ++ [x]) xs' Sf' ∧ Below lo w w' := by
  obtain ⟨i, hi', hz, hs, hby⟩ := infoI64
  exact app_el I_ok h Tryd.underlying46 hi' hz hs hby rfl (by decide) (fun w' => rfl) hlo (by unfold maxLen; omega) (by omega)
end Go.Proofs.YtdimpopkkjpddaaDoor.RepC
