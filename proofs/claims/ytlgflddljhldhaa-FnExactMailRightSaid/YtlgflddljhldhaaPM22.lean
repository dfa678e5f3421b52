/- Of this claim's texts the part 22: MlG MlO CfGv. -/
import Derived.Test.YtlgflddljhldhaaPM20
section
namespace Go.Proofs.Ytlgflddljhldhaa.RepC
open Go.RowKit RowC ValC
set_option linter.unusedVariables false
set_option linter.unusedSimpArgs false
theorem gsz_Mail {d : D_Mail} {cs : List Value} {W : World} {l : Int} (h0 : 0 ≤ l) (h1 : l ≤ 1048576) (h : R_Mail.rd W W.heap.size d cs) : Calls Try.prog 6 #[.agg cs.toArray, .int .i64 l] W (SzC l (R_Mail.sz d) W) := by
  rename D_Mail => L0
  obtain ⟨a0, c0, rfl, k_L0⟩ := rd_Mail h
  exact sz_Mail h0 h1 k_L0
theorem gto_Mail {d : D_Mail} {cs : List Value} {W : World} (hsz : R_Mail.sz d ≤ 1048576) (h : R_Mail.rd W W.heap.size d cs) : Calls Try.prog 9 #[.agg cs.toArray] W (NewV R_Mail d W) := by
  rename D_Mail => L0
  obtain ⟨a0, c0, rfl, k_L0⟩ := rd_Mail h
  exact to_Mail hsz k_L0
theorem geq_Mail {d : D_Mail} {cs cs' : List Value} {W : World} (h : R_Mail.rd W W.heap.size d cs) (h' : R_Mail.rd W W.heap.size d cs') : Calls Try.prog 12 #[.agg cs.toArray, .agg cs'.toArray] W (IsB true W) := by
  rename D_Mail => L0
  obtain ⟨a0, c0, rfl, k_L0⟩ := rd_Mail h
  obtain ⟨a0', c0', rfl, k'_L0⟩ := rd_Mail h'
  exact eq_Mail k_L0 k'_L0
theorem owc_Mail {W : World} {S : Nat → Prop} {L0 : List (D_Box)} {cs : List Value} (h : R_Mail.ow W S L0 cs) : ∃ a0 c0, cs = [.slice a0 L0.length c0] ∧ R_Mail.ow W S L0 [.slice a0 L0.length c0] := by
  have h0 := h
  obtain ⟨a0, c0, T0, rfl, _⟩ := ow_Mail h
  exact ⟨a0, c0, rfl, h0⟩
theorem rdc_Mail {W : World} {B : Nat} {L0 : List (D_Box)} {cs : List Value} (h : R_Mail.rd W B L0 cs) : ∃ a0 c0, cs = [.slice a0 L0.length c0] ∧ R_Mail.rd W B L0 [.slice a0 L0.length c0] := by
  have h0 := h
  obtain ⟨a0, c0, rfl, _⟩ := rd_Mail h
  exact ⟨a0, c0, rfl, h0⟩
end Go.Proofs.Ytlgflddljhldhaa.RepC
end
section
namespace Go.Proofs.Ytlgflddljhldhaa.RepC
open Go.ChangeShapes Go.WideShapes Go.ChangeAt Go.RowKit Go.Joins Go.Deep RowC ValC
set_option maxRecDepth 100000
set_option linter.unusedVariables false
set_option linter.unusedSimpArgs false
theorem c_Note : Try.prog.cellsOf 129 = 2 := by kernel_rfl
theorem opn_Note : Opn R_Note 129 := fun enc W fuel cs y h => by
  obtain ⟨xs, n, _, _, hl, hlen, hf⟩ := DataW.trod_struct Try.underlying129 h
  rw [c_Note] at hl
  match cs, hl with
  | [c0, c1], _ =>
    have e2 : xs.length = 2 := hlen
    match xs, e2 with
    | [y0, y1], _ =>
      have g0 := fld hf 0 2 0 1 rfl c_int64
      have g1 := fld hf 1 2 1 1 rfl c_int64
      obtain ⟨d0, h0⟩ := opn_i64 enc W n [c0] y0 g0
      obtain ⟨d1, h1⟩ := opn_i64 enc W n [c1] y1 g1
      exact ⟨(d0, d1), ⟨[c0], [c1], rfl, h0, h1⟩⟩
theorem c_NoteS : Try.prog.cellsOf 82 = 1 := by kernel_rfl
theorem opn_NoteS : Opn (Sl R_Note) 82 := opn_sl opn_Note (by decide) Try.underlying82 c_Note
theorem c_Box : Try.prog.cellsOf 84 = 3 := by kernel_rfl
theorem opn_Box : Opn R_Box 84 := fun enc W fuel cs y h => by
  obtain ⟨xs, n, _, _, hl, hlen, hf⟩ := DataW.trod_struct Try.underlying84 h
  rw [c_Box] at hl
  match cs, hl with
  | [c0, c1, c2], _ =>
    have e2 : xs.length = 3 := hlen
    match xs, e2 with
    | [y0, y1, y2], _ =>
      have g0 := fld hf 0 55 0 1 rfl c_i64s
      have g1 := fld hf 1 55 1 1 rfl c_i64s
      have g2 := fld hf 2 82 2 1 rfl c_NoteS
      obtain ⟨d0, h0⟩ := opn_i64s enc W n [c0] y0 g0
      obtain ⟨d1, h1⟩ := opn_i64s enc W n [c1] y1 g1
      obtain ⟨d2, h2⟩ := opn_NoteS enc W n [c2] y2 g2
      exact ⟨(d0, d1, d2), ⟨[c0], [c1, c2], rfl, h0, ⟨[c1], [c2], rfl, h1, h2⟩⟩⟩
theorem c_BoxS : Try.prog.cellsOf 27 = 1 := by kernel_rfl
theorem opn_BoxS : Opn (Sl R_Box) 27 := opn_sl opn_Box (by decide) Try.underlying27 c_Box
theorem c_Mail : Try.prog.cellsOf 29 = 1 := by kernel_rfl
theorem opn_Mail : Opn R_Mail 29 := fun enc W fuel cs y h => by
  obtain ⟨xs, n, _, _, hl, hlen, hf⟩ := DataW.trod_struct Try.underlying29 h
  rw [c_Mail] at hl
  match cs, hl with
  | [c0], _ =>
    have e2 : xs.length = 1 := hlen
    match xs, e2 with
    | [y0], _ =>
      have g0 := fld hf 0 27 0 1 rfl c_BoxS
      obtain ⟨d0, h0⟩ := opn_BoxS enc W n [c0] y0 g0
      exact ⟨(d0), h0⟩
theorem open_Mail {H : Type} {enc : TypeId × Value → H} {W : World} {base : Nat} {v : Value} {d : DataW H} {p : List MemPlace} (o : Value.okWide Try.prog W .any base 29 v) (h : DataW.Trod enc Try.prog W 0 (fun _ => true) true 29 v d p) :
    ∃ (L0 : List (D_Box)) (a0 : Option Addr) (c0 : Nat), v = .agg #[.slice a0 L0.length c0] ∧ R_Mail.rd W W.heap.size L0 [.slice a0 L0.length c0] := by
  obtain ⟨L0, cs, rfl, hr⟩ := open_st opn_Mail Try.underlying29 o h
  obtain ⟨a0, c0, rfl, h0⟩ := rdc_Mail hr
  exact ⟨L0, a0, c0, rfl, h0⟩
end Go.Proofs.Ytlgflddljhldhaa.RepC
end
section
namespace Go.Proofs.Ytlgflddljhldhaa.RepC
open Go.RowKit RowC ValC SpanC KeptC
set_option linter.unusedVariables false
set_option linter.unusedSimpArgs false
theorem cm_labs : ∀ L : List D_Label, sumL R_Label.cm L = 2 * L.length
  | [] => rfl
  | x :: xs => by
    simp only [sumL, cm_labs xs, List.length_cons]
    have : R_Label.cm x = 2 := rfl
    omega
theorem sz_labs : ∀ L : List D_Label, sumL R_Label.sz L = 0
  | [] => rfl
  | x :: xs => by
    simp only [sumL, sz_labs xs]
    rfl
theorem cm_labss : ∀ C : List (List D_Label), sumL (Sl R_Label).cm C ≤ 2 * (Sl (Sl R_Label)).sz C
  | [] => Nat.zero_le _
  | x :: xs => by
    have h := cm_labss xs
    have e : (Sl (Sl R_Label)).sz (x :: xs) = (x :: xs).length + ((Sl R_Label).sz x + sumL (Sl R_Label).sz xs) := rfl
    have e2 : (Sl (Sl R_Label)).sz xs = xs.length + sumL (Sl R_Label).sz xs := rfl
    have e3 : (Sl R_Label).sz x = x.length + sumL R_Label.sz x := rfl
    have e4 : (Sl R_Label).cm x = sumL R_Label.cm x := rfl
    rw [e, e3, sz_labs]
    rw [e2] at h
    simp only [sumL, List.length_cons]
    rw [e4, cm_labs]
    omega
theorem cm_pairs : ∀ L : List D_Pair, sumL R_Pair.cm L = 5 * L.length
  | [] => rfl
  | x :: xs => by
    simp only [sumL, cm_pairs xs, List.length_cons]
    have : R_Pair.cm x = 5 := rfl
    omega
theorem cm_quotas : ∀ L : List D_Quota, sumL R_Quota.cm L = 3 * L.length
  | [] => rfl
  | x :: xs => by
    simp only [sumL, cm_quotas xs, List.length_cons]
    have : R_Quota.cm x = 3 := rfl
    omega
theorem cvs_Config {d : D_Config} (h : R_Config.sz d ≤ 1048576) : R_Config.cv d ≤ 8388608 := by
  obtain ⟨C, P, Q, hf⟩ := d
  rw [szd_Config, flat_PairS, flat_QuotaS] at h
  rw [cvd_Config, cm_pairs, cm_quotas]
  have := cm_labss C
  omega
end Go.Proofs.Ytlgflddljhldhaa.RepC
end
