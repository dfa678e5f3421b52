/- UseAdd as the law wants it. -/
import Derived.Test.YtjhcphmehlihcaaUsGv
import Derived.Test.YtjhcphmehlihcaaUsB5
import Derived.Test.YtjhcphmehlihcaaUsC2
namespace Go.Proofs.Ytjhcphmehlihcaa.RepC
open Go.RowKit RowC ValC SpanC KeptC SortC
set_option linter.unusedVariables false
set_option linter.unusedSimpArgs false

theorem sum_mem {α : Type} (f : α → Nat) : ∀ {L : List α} {x : α}, x ∈ L → f x ≤ sumL f L
  | [], x, h => by simp at h
  | y :: ys, x, h => by
    simp only [sumL]
    rcases List.mem_cons.1 h with rfl | h
    · omega
    · have := sum_mem f h
      omega
theorem uses_lens {L : List D_Use} (h : (Sl R_Use).sz L ≤ 1048576) : L.length ≤ 1048576 ∧ ∀ x ∈ L, x.2.1.size ≤ 1048576 := by
  have e : (Sl R_Use).sz L = L.length + sumL R_Use.sz L := rfl
  refine ⟨by omega, fun x hx => ?_⟩
  have h1 := sum_mem R_Use.sz hx
  obtain ⟨⟨x0, x1⟩, x2, x3⟩ := x
  rw [szd_Use] at h1
  show x2.size ≤ _
  omega
theorem gua_spec {L : List D_Use} {v : Value} {l0 l1 n : Int} {s : ByteArray} {W : World} (h : (Sl R_Use).rd W W.heap.size L [v]) (hs : s.size ≤ maxLen) : Calls Try.prog 13 #[v, .agg #[.int .i64 l0, .int .i64 l1], .string s, .int .i64 n] W (NewS R_Use (addV L ((l0, l1), s) n) W) := by
  obtain ⟨al, cap, he, k⟩ := h; cases he
  exact add_spec k hs
theorem gua_impl {L : List D_Use} {v : Value} {l0 l1 n : Int} {s : ByteArray} {W : World} (h : (Sl R_Use).rd W W.heap.size L [v]) (hz : (Sl R_Use).sz L ≤ 1048576) (hs : WfA ((l0, l1), s)) : Calls Try.prog 11 #[v, .agg #[.int .i64 l0, .int .i64 l1], .string s, .int .i64 n] W (NewS R_Use (addV L ((l0, l1), s) n) W) := by
  obtain ⟨al, cap, he, k⟩ := h; cases he
  exact add_impl (uses_lens hz).1 (uses_lens hz).2 k hs
theorem insU_len : ∀ (L : List D_Use) (a : AC) (n : Int), (insU L a n).length ≤ L.length + 1
  | [], a, n => by rw [insU_nil]; simp
  | x :: xs, a, n => by
    by_cases h : ku x = a
    · rw [insU_hit h]; simp
    · by_cases h2 : ltA a (ku x)
      · rw [insU_less h h2]; simp
      · rw [insU_go h h2]
        have := insU_len xs a n
        simp only [List.length_cons]
        omega
theorem add_small {L R : List D_Use} {a : AC} {n : Int} (hd : addV L a n = R) : (Sl R_Use).cv R ≤ 1048576 := by
  show sumL R_Use.cm R ≤ _
  rw [cm_uses, ← hd]
  by_cases hb : 400 < L.length ∨ 8000 < a.2.size
  · rw [addV_big hb]; simp
  · by_cases h : usesB L = true ∧ LabC.rB a.1.1 a.1.2 = true ∧ nameB a.2 = true ∧ isB n 1 100000 = true ∧ takesB (FU L) (L.map ku) a = true
    · rw [addV_yes (by omega) (by omega) h]
      have := insU_len L a n
      omega
    · rw [addV_no (by omega) (by omega) h]
      omega
end Go.Proofs.Ytjhcphmehlihcaa.RepC
