/- Comparisons whose outcome is known, as facts on the operation. -/
import Derived.Test.YtdimpopkkjpddaaDoorLLat
import Derived.Laws.StructEq
namespace Go.Proofs.YtdimpopkkjpddaaDoor.DrawC
open Go.RowKit LabC
theorem bytes_nil {a : ByteArray} (h : a.toList = []) : a = { data := #[] } := by
  rw [ByteArray.toList_eq] at h
  exact ByteArray.ext (by simpa using h)
theorem neq_str_t {T : ByteArray} (h : T ≠ { data := #[] }) (w : World) : (binOp .neq 9 (.string T) (.string { data := #[] })).run Tryd.prog w = .ok (.bool true) w := by
  have hl : ¬ T.toList = [] := fun h9 => h (bytes_nil h9)
  go_simp
  repeat' split
  all_goals simp_all
theorem neq_str_f (w : World) : (binOp .neq 9 (.string { data := #[] }) (.string { data := #[] })).run Tryd.prog w = .ok (.bool false) w := by
  go_simp
theorem eql_int_t (w : World) : (binOp .eql 2 (.int .i64 0) (.int .i64 0)).run Tryd.prog w = .ok (.bool true) w := by
  go_simp
theorem eql_int_f {c : Int} (h : ¬ c = 0) (w : World) : (binOp .eql 2 (.int .i64 c) (.int .i64 0)).run Tryd.prog w = .ok (.bool false) w := by
  go_simp
  repeat' split
  all_goals simp_all
theorem str_t {T : ByteArray} (h : T ≠ { data := #[] }) : T.toList.isEmpty = false := by
  cases hl : T.toList with
  | nil => exact absurd (bytes_nil hl) h
  | cons a l => rfl
theorem eq_lab2_at {a b a' b' : Int} {q : Bool} (h : ((a == a') && (b == b')) = q) (w : World) : (binOp .eql 23 (.agg #[.int .i64 a, .int .i64 b]) (.agg #[.int .i64 a', .int .i64 b'])).run Tryd.prog w = .ok (.bool q) w := by
  subst h
  go_simp
  repeat' split
  all_goals simp_all
theorem lab_inj {a b c d : Int} (h : lab a b = .agg #[.int .i64 c, .int .i64 d]) : c = a ∧ d = b := by
  unfold lab at h
  injection h with h
  injection h with h
  simp at h
  exact ⟨h.1.symm, h.2.symm⟩
theorem lat_at {x1 y1 x2 y2 x3 y3 jx jy mx my : Int} (h1 : rB x1 y1 = true) (h2 : rB x2 y2 = true) (h3 : rB x3 y3 = true) (hj : joinV x1 y1 x2 y2 = .agg #[.int .i64 jx, .int .i64 jy]) (hm : meetV x1 y1 x2 y2 = .agg #[.int .i64 mx, .int .i64 my]) :
    (belowB x1 y1 jx jy = true ∧ belowB x2 y2 jx jy = true ∧ belowB mx my x1 y1 = true ∧ belowB mx my x2 y2 = true ∧ belowB x1 y1 x2 y2 = ((jx == x2) && (jy == y2))) ∧
      belowB jx jy x3 y3 = (belowB x1 y1 x3 y3 && belowB x2 y2 x3 y3) ∧ belowB x3 y3 mx my = (belowB x3 y3 x1 y1 && belowB x3 y3 x2 y2) := by
  rw [join_yes h1 h2] at hj
  rw [meet_yes h1 h2] at hm
  obtain ⟨rfl, rfl⟩ := lab_inj hj
  obtain ⟨rfl, rfl⟩ := lab_inj hm
  obtain ⟨_, _, a, b, c, d, e⟩ := lat2 h1 h2
  exact ⟨⟨a, b, c, d, e⟩, lat3 h1 h2 h3⟩
end Go.Proofs.YtdimpopkkjpddaaDoor.DrawC
