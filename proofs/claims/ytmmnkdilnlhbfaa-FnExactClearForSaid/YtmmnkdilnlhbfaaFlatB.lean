/- Rows of the call's own of elements without memory, that grow by whole slices: general in the type; labels, ints. -/
import Derived.Test.YtmmnkdilnlhbfaaFlatA
import Derived.Test.YtmmnkdilnlhbfaaLApp
import Derived.Test.YtmmnkdilnlhbfaaGen
import Derived.Lib.AppendZeros
namespace Go.Proofs.Ytmmnkdilnlhbfaa.RepC
open Go.RowKit RowC ValC
set_option linter.unusedVariables false
set_option linter.unusedSimpArgs false
set_option maxRecDepth 100000

section
variable {α : Type} {E : Rp α} {f : α → List Value} {w w' : World} {lo : Nat} {T : TypeId} {v : Value} {L : List α}
theorem infoLb : ∃ i, Try.prog.info? 38 = some i ∧ i.zero = some (.agg #[.int .i64 0, .int .i64 0]) ∧ i.size = 2 ∧ i.bytes = 16 := by
  have h : (Try.prog.info? 38).map (fun i => (i.zero, i.size, i.bytes)) = some (some (.agg #[.int .i64 0, .int .i64 0]), 2, 16) := by kernel_rfl
  cases hx : Try.prog.info? 38 with
  | none => rw [hx] at h; simp at h
  | some i => rw [hx] at h; simp at h; exact ⟨i, rfl, h.1, h.2.1, h.2.2⟩
theorem infoIn : ∃ i, Try.prog.info? 2 = some i ∧ i.zero = some (.int .i64 0) ∧ i.size = 1 ∧ i.bytes = 8 := by
  have h : (Try.prog.info? 2).map (fun i => (i.zero, i.size, i.bytes)) = some (some (.int .i64 0), 1, 8) := by kernel_rfl
  cases hx : Try.prog.info? 2 with
  | none => rw [hx] at h; simp at h
  | some i => rw [hx] at h; simp at h; exact ⟨i, rfl, h.1, h.2.1, h.2.2⟩
theorem flat_I : Flat I (fun x => [.int .i64 x]) := ⟨fun {W B x us} h => h, fun W S x => rfl⟩
/-- rows of labels -/
abbrev BRow (w : World) (lo : Nat) (v : Value) (L : List D_Label) : Prop := FRow R_Label (fun x => [.int .i64 x.1, .int .i64 x.2]) w lo 38 v L
theorem BRow.more {w : World} {lo : Nat} {v : Value} {L M : List D_Label} {a : Option Addr} {cap : Nat} (h : BRow w lo v L) (hM : RdSl R_Label w w.heap.size M a cap) (hlo : lo ≤ w.heap.size) (hL : L.length + M.length ≤ 8796093022208) :
    ∃ a' c' w', (Builtin.append_ #[73, 73] 73 #[v, .slice a M.length cap]).run Try.prog w = .ok (.slice a' (L ++ M).length c') w' ∧ BRow w' lo (.slice a' (L ++ M).length c') (L ++ M) ∧ Below lo w w' := by
  obtain ⟨i, hi', hz, hs, hby⟩ := infoLb
  exact FRow.more R_Label_ok flat_Label h Try.underlying73 hi' hz hs hby rfl (by decide) hM hlo (by unfold maxLen; omega) (by omega)
theorem rd_oneL {w : World} {g : Nat} (x0 x1 : Int) (h : Blk w g 38 #[.int .i64 x0, .int .i64 x1]) : RdSl R_Label w w.heap.size [(x0, x1)] (some ⟨g, 0, none⟩) 1 := by
  refine ⟨Nat.le_refl _, by unfold maxLen; omega, fun _ => ⟨g, 0, rfl, h.lt, fun i x hx => ?_⟩⟩
  cases i with
  | zero =>
    simp at hx
    subst hx
    refine ⟨[.int .i64 x0, .int .i64 x1], fun j c hj => ?_, mkrd_Label⟩
    simpa using h.at_ j (by simpa using hj)
  | succ i => simp at hx
theorem rd_oneI {w : World} {g : Nat} (x : Int) (h : Blk w g 2 #[.int .i64 x]) : RdSl I w w.heap.size [x] (some ⟨g, 0, none⟩) 1 := by
  refine ⟨Nat.le_refl _, by unfold maxLen; omega, fun _ => ⟨g, 0, rfl, h.lt, fun i x hx => ?_⟩⟩
  cases i with
  | zero =>
    simp at hx
    subst hx
    refine ⟨[.int .i64 x], fun j c hj => ?_, rfl⟩
    simpa using h.at_ j (by simpa using hj)
  | succ i => simp at hx
/-- rows of ints -/
abbrev IRow (w : World) (lo : Nat) (v : Value) (L : List Int) : Prop := FRow I (fun x => [.int .i64 x]) w lo 2 v L
theorem IRow.more {w : World} {lo : Nat} {v : Value} {L M : List Int} {a : Option Addr} {cap : Nat} (h : IRow w lo v L) (hM : RdSl I w w.heap.size M a cap) (hlo : lo ≤ w.heap.size) (hL : L.length + M.length ≤ 17592186044416) :
    ∃ a' c' w', (Builtin.append_ #[30, 30] 30 #[v, .slice a M.length cap]).run Try.prog w = .ok (.slice a' (L ++ M).length c') w' ∧ IRow w' lo (.slice a' (L ++ M).length c') (L ++ M) ∧ Below lo w w' := by
  obtain ⟨i, hi', hz, hs, hby⟩ := infoIn
  exact FRow.more I_ok flat_I h Try.underlying30 hi' hz hs hby rfl (by decide) hM hlo (by unfold maxLen; omega) (by omega)
/-- a row that room was made for -/
theorem BRow.grown {w : World} {n : Nat} (h0 : 0 < n) (hn : n ≤ 1099511627776) : ∃ c w', (Builtin.append_ #[73, 3] 73 #[.slice none 0 0, .int .i64 n]).run Try.prog w = .ok (.slice (some ⟨w.heap.size, 0, none⟩) n c) w' ∧ BRow w' w.heap.size (.slice (some ⟨w.heap.size, 0, none⟩) 0 c) [] ∧ Below w.heap.size w w' ∧ n ≤ c := by
  obtain ⟨i, hi', hz, hs, hby⟩ := infoLb
  have hge := grownCap_ge w n 0 38
  refine ⟨_, _, Lib.run_append_nil_zeros w 73 3 73 38 i _ .i64 .i64 Try.underlying73 Try.underlying3 hi' hz n h0 (by rw [hs]; decide) (by omega) (by rw [hby]; omega), ⟨⟨by simp, .inr ⟨w.heap.size, _, _, rfl, Nat.le_refl _, heap_alloc_new w.drew _, Nat.zero_le _, grownCap_le_maxLen _ _ _ _ (by unfold maxLen; omega), ?_, by simp⟩⟩, fun k hk => (by cases hk; exact ⟨Nat.le_refl _, by simp⟩)⟩, ((Below.refl _ _).drew).alloc (by simp) _, hge⟩
  rw [Array.size_append, size_zeroCells, size_zeroCells]
  show _ * 2 + _ * 2 = _
  rw [← Nat.add_mul]
  congr 1
  omega
end
end Go.Proofs.Ytmmnkdilnlhbfaa.RepC
