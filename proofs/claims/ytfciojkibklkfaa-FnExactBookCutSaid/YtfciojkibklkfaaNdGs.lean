/- NodeSet as the law wants it; the sizes of what a change answers. -/
import Derived.Test.YtfciojkibklkfaaNdS2
import Derived.Test.YtfciojkibklkfaaNdGv
import Derived.Test.YtfciojkibklkfaaNdO2
namespace Go.Proofs.Ytfciojkibklkfaa.RepC
open Go.RowKit RowC ValC SpanC KeptC
set_option linter.unusedVariables false
set_option linter.unusedSimpArgs false

theorem chg_small {L : List D_Node} {n : Int} {ok : Bool} {chg : D_Node → Int × D_Node} {d : D_NodesOut} (hz : (Sl R_Node).sz L ≤ 1048576) (hc : ∀ x, okN x → (chg x).2.2.length ≤ 5) (hd : chgV L n ok chg = d) : R_NodesOut.cv d ≤ 8388608 := by
  obtain ⟨R, c⟩ := d
  rw [cvd_NodesOut]
  have key : ∀ K : List D_Node, (∀ x ∈ K, x.2.length ≤ 5) → sumL R_Node.cm K ≤ 11 * K.length := by
    intro K hK
    induction K with
    | nil => exact Nat.zero_le _
    | cons y ys ih =>
      have h1 := ih fun x hx => hK x (by simp [hx])
      have h2 := hK y (by simp)
      obtain ⟨s, b⟩ := y
      have h3 : R_Node.cm (s, b) = 1 + sumL R_Span.cm b := rfl
      have h4 : b.length ≤ 5 := h2
      simp only [sumL, List.length_cons]
      rw [h3, cm_spans]
      omega
  have hR : R = [] ∨ (R.length ≤ 6 ∧ ∀ x ∈ R, x.2.length ≤ 5) := by
    unfold chgV at hd
    split at hd
    · exact .inl (congrArg Prod.fst hd).symm
    · split at hd
      · exact .inl (congrArg Prod.fst hd).symm
      · rename_i h1 h2
        split at hd
        · exact .inl (congrArg Prod.fst hd).symm
        · split at hd
          · exact .inl (congrArg Prod.fst hd).symm
          · rename_i x hx
            split at hd
            · have hN : NodesR L := nodesB_iff.1 (by cases hq : nodesB L with
                | true => rfl
                | false => rw [hq] at h2; exact absurd rfl h2)
              have e : L.set n.toNat (chg x).2 = R := congrArg Prod.fst hd
              refine .inr ⟨by rw [← e, List.length_set]; exact hN.1.2, fun y hy => ?_⟩
              rw [← e] at hy
              rcases List.mem_or_eq_of_mem_set hy with h | h
              · have := (hN.2 y h).2.1; omega
              · rw [h]; exact hc x (nodesR_at hN hx)
            · exact .inl (congrArg Prod.fst hd).symm
  rcases hR with rfl | ⟨h1, h2⟩
  · exact Nat.zero_le _
  · have := key R h2
    omega
theorem gns_spec {L : List D_Node} {v : Value} {n st : Int} {W : World} (h : (Sl R_Node).rd W W.heap.size L [v]) : Calls Try.prog 17 #[v, .int .i64 n, .int .i64 st] W (NewV R_NodesOut (chgV L n (isB st 1 3) (setN st)) W) := by
  obtain ⟨a, cap, he, k⟩ := h; cases he
  exact set_spec k
theorem gns_impl {L : List D_Node} {v : Value} {n st : Int} {W : World} (h : (Sl R_Node).rd W W.heap.size L [v]) : Calls Try.prog 16 #[v, .int .i64 n, .int .i64 st] W (NewV R_NodesOut (chgV L n (isB st 1 3) (setN st)) W) := by
  obtain ⟨a, cap, he, k⟩ := h; cases he
  exact set_impl k
theorem set_small {L : List D_Node} {n st : Int} {d : D_NodesOut} (hz : (Sl R_Node).sz L ≤ 1048576) (hd : chgV L n (isB st 1 3) (setN st) = d) : R_NodesOut.cv d ≤ 8388608 :=
  chg_small hz (fun x hx => by have := hx.2.1; unfold setN; split <;> simp <;> omega) hd
theorem sets_NodesOut {w : World} {g : Nat} {v0 v1 : Value} {t : TypeId} (h : Blk w g t #[.slice none 0 0, .int .i64 0]) : Blk ((w.setCell ⟨g, 0, none⟩ v0).setCell ⟨g, 1, none⟩ v1) g t #[v0, v1] := Blk.as ((h.set 0 v0).set 1 v1) rfl
theorem soff_NodesOut (w : World) (g : Nat) (v0 v1 : Value) : Off (fun x => x = g) w ((w.setCell ⟨g, 0, none⟩ v0).setCell ⟨g, 1, none⟩ v1) := (((Off.refl (fun x => x = g) w).setCell (p := ⟨g, 0, none⟩) rfl v0).setCell (p := ⟨g, 1, none⟩) rfl v1)
end Go.Proofs.Ytfciojkibklkfaa.RepC
