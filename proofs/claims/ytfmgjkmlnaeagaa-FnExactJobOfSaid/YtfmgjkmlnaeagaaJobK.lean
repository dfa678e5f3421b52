/- Jobs by label: a map of rows of the call's own, keyed by labels. -/
import Derived.Test.YtfmgjkmlnaeagaaJobC
import Derived.Maps.RangeWalk
import Derived.WideKeyEntry
import Derived.DeepKeys4
import Derived.MapViews
import Derived.ChangeSame
namespace Go.Proofs.Ytfmgjkmlnaeagaa.RepC
open Go.RowKit RowC ValC SpanC KeptC Go.ChangeShapes Go.Maps
open Go.ChangeMaps (setBlock heap_setBlock_same heap_setBlock_other)
set_option linter.unusedVariables false
set_option maxRecDepth 100000

theorem m_laid : laidOutB Try.prog = true := by kernel_rfl
theorem m_row : (29 : TypeId) < Try.prog.types.size := of_decide_eq_true (by kernel_rfl)
theorem m_wide : (match Try.prog.underlying 29 with | some (.array _ _) | some (.struct _) => true | _ => false) = true := by rw [Try.underlying29]
theorem m_law : WideMaps.KeyLaw Try.prog 29 := deep_law_laid m_laid (m := 2) (by omega) m_row (by kernel_rfl) m_wide
theorem m_keyed : Keyed Try.prog 29 := Keyed.of_law m_law
theorem m_deep : Try.prog.keyTypeAt (Try.prog.types.size + 1) 29 = true := by kernel_rfl
theorem m_cells : Try.prog.cellsOf 29 = 2 := by kernel_rfl
theorem m_c64 : Try.prog.cellsOf 2 = 1 := by kernel_rfl
theorem m_type : Try.prog.keyType 29 = true := by kernel_rfl
def labV (l s : Int) : Value := .agg #[.int .i64 l, .int .i64 s]
theorem m_formed {l s : Int} : (labV l s).formed Try.prog 29 = true := by simp [labV, Value.formed, Try.underlying29, m_cells]
abbrev Wf (l : Int) : Prop := (Lit.int .i64 l).wf = true
def K (l s : Int) : Lit := (DataW.agg [.lit (.int .i64 l), .lit (.int .i64 s)] : DataW Value).asKey
theorem key_of {l s : Int} (hl : Wf l) (hs : Wf s) : keyOf Try.prog 29 (labV l s) = some (K l s) := by
  have h : DataW.Trod (H := Value) (fun x => x.2) Try.prog { (default : World) with heap := #[] } 0 (fun _ => true) true 29 (labV l s) (.agg [.lit (.int .i64 l), .lit (.int .i64 s)]) [] := by
    refine ⟨2, ?_⟩
    refine trod_struct2_mk (y0 := (.lit (.int .i64 l), [])) (y1 := (.lit (.int .i64 s), [])) Try.underlying29 ?_ ?_ ?_
    · rw [m_cells]; rfl
    · show DataW.trod _ Try.prog _ 0 _ true 1 2 (([Value.int .i64 l, Value.int .i64 s].drop 0).take (Try.prog.cellsOf 2)) = _
      rw [m_c64]
      exact trod_int_mk 0 Try.underlying2 hl
    · show DataW.trod _ Try.prog _ 0 _ true 1 2 (([Value.int .i64 l, Value.int .i64 s].drop 1).take (Try.prog.cellsOf 2)) = _
      rw [m_c64]
      exact trod_int_mk 0 Try.underlying2 hs
  exact (keyOf_asKey m_deep m_wide m_formed h).1
theorem lits_int {d : Nat} {c : Value} {l : List Lit} (h : Try.prog.keyLits d 2 [c] = some l) : ∃ n, c = .int .i64 n ∧ Wf n := by
  cases d with
  | zero => simp [Program.keyLits] at h
  | succ d =>
    unfold Program.keyLits at h
    rw [Try.underlying2] at h
    cases c <;> simp at h
    obtain ⟨⟨rfl, hw⟩, _⟩ := h
    exact ⟨_, rfl, hw⟩
theorem key_inv {key : Value} {kl : Lit} (h : keyOf Try.prog 29 key = some kl) : ∃ l s, key = labV l s ∧ Wf l ∧ Wf s ∧ kl = K l s := by
  have h0 := h
  unfold keyOf at h
  rw [Try.underlying29] at h
  simp only at h
  split at h
  · rename_i hf
    simp only [Bool.and_eq_true] at hf
    have hf2 := hf.2
    cases key <;> simp [Value.formed, Try.underlying29] at hf2
    rename_i cs
    rw [m_cells] at hf2
    obtain ⟨c0, c1, rfl⟩ : ∃ c0 c1, cs = #[c0, c1] := by
      obtain ⟨l⟩ := cs
      match l, hf2 with
      | [a, b], _ => exact ⟨a, b, rfl⟩
    rw [show (Value.agg #[c0, c1]).cells.toList = [c0, c1] from rfl] at h
    cases hk : Try.prog.keyLits (Try.prog.types.size + 1) 29 [c0, c1] with
    | none => rw [hk] at h; cases h
    | some ls =>
      unfold Program.keyLits at hk
      rw [Try.underlying29] at hk
      simp only at hk
      rw [if_pos ⟨by rw [m_cells]; rfl, by simp⟩] at hk
      simp only [List.mapM_cons, List.mapM_nil, Option.map_eq_some_iff] at hk
      obtain ⟨zs, hz, _⟩ := hk
      simp only [Option.bind_eq_bind, Option.bind_eq_some_iff] at hz
      obtain ⟨z0, h1, z1, h2, _⟩ := hz
      obtain ⟨z1', h3, _⟩ := h2
      rw [m_c64] at h1 h3
      obtain ⟨l, rfl, hl⟩ := lits_int h1
      obtain ⟨s, rfl, hs⟩ := lits_int h3
      refine ⟨l, s, rfl, hl, hs, ?_⟩
      have := key_of hl hs
      rw [show labV l s = Value.agg #[Value.int .i64 l, Value.int .i64 s] from rfl, h0] at this
      exact Option.some.inj this
  · cases h
theorem key_inj {l s m t : Int} (h1 : Wf l) (h2 : Wf s) (h3 : Wf m) (h4 : Wf t) (h : K l s = K m t) : l = m ∧ s = t := by
  have := m_keyed.inj (key_of h1 h2) (h ▸ key_of h3 h4)
  simp only [labV, Value.agg.injEq] at this
  have e := congrArg Array.toList this
  simp at e
  exact e
theorem key_lit {l s : Int} (h1 : Wf l) (h2 : Wf s) : WideAt.IsKeyLit (K l s) := m_keyed.key (key_of h1 h2)
end Go.Proofs.Ytfmgjkmlnaeagaa.RepC
