/- ConfigRight and LabelsOf as the laws want them. -/
import Derived.Test.YtmmnkdilnlhbfaaCfV2
import Derived.Test.YtmmnkdilnlhbfaaCfO
namespace Go.Proofs.Ytmmnkdilnlhbfaa.RepC
open Go.RowKit RowC ValC SpanC KeptC
set_option linter.unusedVariables false
set_option linter.unusedSimpArgs false

noncomputable def cfgG (d : D_Config) : Bool := cfgB d.1 d.2.1 d.2.2.1 d.2.2.2
noncomputable def labsG (d : D_Config) : List D_Label := labsV d.1 d.2.1 d.2.2.1 d.2.2.2
theorem gconf_spec {d : D_Config} {cs : List Value} {W : World} (h : R_Config.rd W W.heap.size d cs) : Calls Try.prog 41 #[.agg cs.toArray] W (IsB (cfgG d) W) := by
  obtain ⟨C, P, Q, hf⟩ := d
  obtain ⟨a0, c0, a1, c1, a2, c2, rfl, k0, k1, k2⟩ := rd_Config h
  exact config_spec k0 k1 k2
theorem gconf_impl {d : D_Config} {cs : List Value} {W : World} (h : R_Config.rd W W.heap.size d cs) : Calls Try.prog 46 #[.agg cs.toArray] W (IsB (cfgG d) W) := by
  obtain ⟨C, P, Q, hf⟩ := d
  obtain ⟨a0, c0, a1, c1, a2, c2, rfl, k0, k1, k2⟩ := rd_Config h
  exact config_impl k0 k1 k2
theorem glabs_spec {d : D_Config} {cs : List Value} {W : World} (h : R_Config.rd W W.heap.size d cs) : Calls Try.prog 54 #[.agg cs.toArray] W (NewS R_Label (labsG d) W) := by
  obtain ⟨C, P, Q, hf⟩ := d
  obtain ⟨a0, c0, a1, c1, a2, c2, rfl, k0, k1, k2⟩ := rd_Config h
  exact labelsof_spec k0 k1 k2
theorem glabs_impl {d : D_Config} {cs : List Value} {W : World} (h : R_Config.rd W W.heap.size d cs) : Calls Try.prog 56 #[.agg cs.toArray] W (NewS R_Label (labsG d) W) := by
  obtain ⟨C, P, Q, hf⟩ := d
  obtain ⟨a0, c0, a1, c1, a2, c2, rfl, k0, k1, k2⟩ := rd_Config h
  exact labelsof_impl k0 k1 k2
theorem cm_labs : ∀ L : List D_Label, sumL R_Label.cm L = 2 * L.length
  | [] => rfl
  | x :: xs => by
    simp only [sumL, cm_labs xs, List.length_cons]
    have : R_Label.cm x = 2 := rfl
    omega
theorem sz_labs : ∀ L : List D_Label, sumL R_Label.sz L = 0
  | [] => rfl
  | x :: xs => by
    simp only [sumL, sz_labs xs]
    rfl
theorem cm_labss : ∀ C : List (List D_Label), sumL (Sl R_Label).cm C ≤ 2 * (Sl (Sl R_Label)).sz C
  | [] => Nat.zero_le _
  | x :: xs => by
    have h := cm_labss xs
    have e : (Sl (Sl R_Label)).sz (x :: xs) = (x :: xs).length + ((Sl R_Label).sz x + sumL (Sl R_Label).sz xs) := rfl
    have e2 : (Sl (Sl R_Label)).sz xs = xs.length + sumL (Sl R_Label).sz xs := rfl
    have e3 : (Sl R_Label).sz x = x.length + sumL R_Label.sz x := rfl
    have e4 : (Sl R_Label).cm x = sumL R_Label.cm x := rfl
    rw [e, e3, sz_labs]
    rw [e2] at h
    simp only [sumL, List.length_cons]
    rw [e4, cm_labs]
    omega
theorem cm_pairs : ∀ L : List D_Pair, sumL R_Pair.cm L = 5 * L.length
  | [] => rfl
  | x :: xs => by
    simp only [sumL, cm_pairs xs, List.length_cons]
    have : R_Pair.cm x = 5 := rfl
    omega
theorem cm_quotas : ∀ L : List D_Quota, sumL R_Quota.cm L = 3 * L.length
  | [] => rfl
  | x :: xs => by
    simp only [sumL, cm_quotas xs, List.length_cons]
    have : R_Quota.cm x = 3 := rfl
    omega
theorem cvs_Config {d : D_Config} (h : R_Config.sz d ≤ 1048576) : R_Config.cv d ≤ 8388608 := by
  obtain ⟨C, P, Q, hf⟩ := d
  rw [szd_Config, flat_PairS, flat_QuotaS] at h
  rw [cvd_Config, cm_pairs, cm_quotas]
  have := cm_labss C
  omega
theorem labs_small {d : D_Config} {R : List D_Label} (hd : labsG d = R) : (Sl R_Label).cv R ≤ 1048576 := by
  show sumL R_Label.cm R ≤ _
  rw [cm_labs, ← hd]
  unfold labsG labsV
  split
  · have := CfC.labsTo_len d.1 32
    show 2 * (CfC.labsTo d.1 32).length ≤ _
    omega
  · simp
end Go.Proofs.Ytmmnkdilnlhbfaa.RepC
