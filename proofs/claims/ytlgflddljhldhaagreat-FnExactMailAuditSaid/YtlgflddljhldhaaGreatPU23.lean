/- Of this claim's texts the part 23: MlOr CatB MlV. -/
import Derived.Test.YtlgflddljhldhaaGreatPU18
import Derived.Test.YtlgflddljhldhaaGreatPU20
import Derived.Test.YtlgflddljhldhaaGreatPU22
section
namespace Go.Proofs.YtlgflddljhldhaaGreat.RepC
open Go.ChangeShapes Go.WideShapes Go.ChangeAt Go.RowKit Go.Joins Go.Deep RowC ValC
set_option maxRecDepth 100000
set_option linter.unusedVariables false
set_option linter.unusedSimpArgs false
def R_NoteR : Rp D_Note := Pr Ir Ir
def R_BoxRg : Rp D_Box := Pr (Sl Ir) (Pr (Sl Ir) (Sl R_NoteR))
def R_MailR : Rp D_Mail := Sl R_BoxRg
theorem opr_i64 : Opn Ir 2 := opn_ir Tryz.underlying2
theorem opr_i64s : Opn (Sl Ir) 70 := opn_sl opr_i64 (by decide) Tryz.underlying70 c_int64
theorem opr_Note : Opn R_NoteR 171 := fun enc W fuel cs y h => by
  obtain ⟨xs, n, _, _, hl, hlen, hf⟩ := DataW.trod_struct Tryz.underlying171 h
  rw [c_Note] at hl
  match cs, hl with
  | [c0, c1], _ =>
    have e2 : xs.length = 2 := hlen
    match xs, e2 with
    | [y0, y1], _ =>
      have g0 := fld hf 0 2 0 1 rfl c_int64
      have g1 := fld hf 1 2 1 1 rfl c_int64
      obtain ⟨d0, h0⟩ := opr_i64 enc W n [c0] y0 g0
      obtain ⟨d1, h1⟩ := opr_i64 enc W n [c1] y1 g1
      exact ⟨(d0, d1), ⟨[c0], [c1], rfl, h0, h1⟩⟩
theorem opr_NoteS : Opn (Sl R_NoteR) 115 := opn_sl opr_Note (by decide) Tryz.underlying115 c_Note
theorem opr_Box : Opn R_BoxRg 117 := fun enc W fuel cs y h => by
  obtain ⟨xs, n, _, _, hl, hlen, hf⟩ := DataW.trod_struct Tryz.underlying117 h
  rw [c_Box] at hl
  match cs, hl with
  | [c0, c1, c2], _ =>
    have e2 : xs.length = 3 := hlen
    match xs, e2 with
    | [y0, y1, y2], _ =>
      have g0 := fld hf 0 70 0 1 rfl c_i64s
      have g1 := fld hf 1 70 1 1 rfl c_i64s
      have g2 := fld hf 2 115 2 1 rfl c_NoteS
      obtain ⟨d0, h0⟩ := opr_i64s enc W n [c0] y0 g0
      obtain ⟨d1, h1⟩ := opr_i64s enc W n [c1] y1 g1
      obtain ⟨d2, h2⟩ := opr_NoteS enc W n [c2] y2 g2
      exact ⟨(d0, d1, d2), ⟨[c0], [c1, c2], rfl, h0, ⟨[c1], [c2], rfl, h1, h2⟩⟩⟩
theorem opr_BoxS : Opn (Sl R_BoxRg) 27 := opn_sl opr_Box (by decide) Tryz.underlying27 c_Box
theorem opr_Mail : Opn R_MailR 29 := fun enc W fuel cs y h => by
  obtain ⟨xs, n, _, _, hl, hlen, hf⟩ := DataW.trod_struct Tryz.underlying29 h
  rw [c_Mail] at hl
  match cs, hl with
  | [c0], _ =>
    have e2 : xs.length = 1 := hlen
    match xs, e2 with
    | [y0], _ =>
      have g0 := fld hf 0 27 0 1 rfl c_BoxS
      obtain ⟨d0, h0⟩ := opr_BoxS enc W n [c0] y0 g0
      exact ⟨(d0), h0⟩
def BdN (x : D_Note) : Prop := i64R x.1 ∧ i64R x.2
def BdB (b : D_Box) : Prop := (∀ n ∈ b.1, i64R n) ∧ (∀ n ∈ b.2.1, i64R n) ∧ ∀ x ∈ b.2.2, BdN x
def BdM (m : D_Mail) : Prop := ∀ b ∈ m, BdB b
theorem ir_rd (W : World) (B : Nat) (d : Int) (cs : List Value) (h : Ir.rd W B d cs) : I.rd W B d cs ∧ i64R d := h
theorem irs_rd {W : World} {B : Nat} {L : List Int} {cs : List Value} (h : (Sl Ir).rd W B L cs) : (Sl I).rd W B L cs ∧ ∀ n ∈ L, i64R n := by
  obtain ⟨a, c, rfl, h⟩ := h
  have h2 := rsl (E := I) (F := Ir) rfl ir_rd h
  exact ⟨⟨a, c, rfl, h2.1⟩, h2.2⟩
theorem noter_rd (W : World) (B : Nat) (d : D_Note) (cs : List Value) (h : R_NoteR.rd W B d cs) : R_Note.rd W B d cs ∧ BdN d := by
  obtain ⟨us, vs, rfl, h1, h2⟩ := h
  exact ⟨⟨us, vs, rfl, h1.1, h2.1⟩, h1.2, h2.2⟩
theorem noters_rd {W : World} {B : Nat} {L : List D_Note} {cs : List Value} (h : (Sl R_NoteR).rd W B L cs) : (Sl R_Note).rd W B L cs ∧ ∀ x ∈ L, BdN x := by
  obtain ⟨a, c, rfl, h⟩ := h
  have h2 := rsl (E := R_Note) (F := R_NoteR) rfl noter_rd h
  exact ⟨⟨a, c, rfl, h2.1⟩, h2.2⟩
theorem boxr_rd (W : World) (B : Nat) (d : D_Box) (cs : List Value) (h : R_BoxRg.rd W B d cs) : R_Box.rd W B d cs ∧ BdB d := by
  obtain ⟨us, vs, rfl, h1, us2, vs2, rfl, h2, h3⟩ := h
  have k1 := irs_rd h1
  have k2 := irs_rd h2
  have k3 := noters_rd h3
  exact ⟨⟨us, us2 ++ vs2, rfl, k1.1, us2, vs2, rfl, k2.1, k3.1⟩, k1.2, k2.2, k3.2⟩
theorem mailr_rd {W : World} {B : Nat} {m : D_Mail} {cs : List Value} (h : R_MailR.rd W B m cs) : R_Mail.rd W B m cs ∧ BdM m := by
  obtain ⟨a, c, rfl, h⟩ := h
  have h2 := rsl (E := R_Box) (F := R_BoxRg) rfl boxr_rd h
  exact ⟨⟨a, c, rfl, h2.1⟩, h2.2⟩
theorem openr_Mail {H : Type} {enc : TypeId × Value → H} {W : World} {base : Nat} {v : Value} {d : DataW H} {p : List MemPlace} (o : Value.okWide Tryz.prog W .any base 29 v) (h : DataW.Trod enc Tryz.prog W 0 (fun _ => true) true 29 v d p) :
    ∃ (L0 : List (D_Box)) (a0 : Option Addr) (c0 : Nat), v = .agg #[.slice a0 L0.length c0] ∧ R_Mail.rd W W.heap.size L0 [.slice a0 L0.length c0] ∧ BdM L0 := by
  obtain ⟨L0, cs, rfl, hr⟩ := open_st opr_Mail Tryz.underlying29 o h
  obtain ⟨hr, hb⟩ := mailr_rd hr
  obtain ⟨a0, c0, rfl, h0⟩ := rdc_Mail hr
  exact ⟨L0, a0, c0, rfl, h0, hb⟩
end Go.Proofs.YtlgflddljhldhaaGreat.RepC
end
section
namespace Go.Proofs.YtlgflddljhldhaaGreat.RepC
open Go.RowKit RowC ValC
set_option linter.unusedVariables false
set_option linter.unusedSimpArgs false
def catB : List ByteArray → ByteArray
  | [] => ⟨#[]⟩
  | b :: bs => b ++ catB bs
theorem catB_app : ∀ (L M : List ByteArray), catB (L ++ M) = catB L ++ catB M
  | [], M => by simp only [List.nil_append, catB, ba_nil']
  | b :: bs, M => by simp only [List.cons_append, catB, catB_app bs M, ByteArray.append_assoc]
theorem catB_size {c : Nat} : ∀ {L : List ByteArray}, (∀ b ∈ L, b.size ≤ c) → (catB L).size ≤ c * L.length
  | [], _ => Nat.zero_le _
  | b :: bs, h => by
    have h1 := catB_size (L := bs) fun m hm => h m (List.mem_cons_of_mem _ hm)
    have h2 := h b List.mem_cons_self
    simp only [catB, ByteArray.size_append, List.length_cons, Nat.mul_add, Nat.mul_one]
    omega
def catTo {α : Type} (f : α → ByteArray) (L : List α) (k : Nat) : ByteArray := catB ((L.take k).map f)
theorem catTo_zero {α : Type} {f : α → ByteArray} {L : List α} : catTo f L 0 = ⟨#[]⟩ := rfl
theorem catTo_step {α : Type} {f : α → ByteArray} {L : List α} {k : Nat} {x : α} (hx : L[k]? = some x) : catTo f L (k + 1) = catTo f L k ++ f x := by
  unfold catTo
  rw [List.take_add_one, hx, Option.toList_some, List.map_append, catB_app]
  simp only [List.map_cons, List.map_nil, catB, ba_nil]
theorem catTo_size {α : Type} {f : α → ByteArray} {L : List α} {c n : Nat} (k : Nat) (hL : L.length ≤ n) (h : ∀ x ∈ L, (f x).size ≤ c) : (catTo f L k).size ≤ c * n := by
  unfold catTo
  refine Nat.le_trans (catB_size (c := c) fun b hb => ?_) (Nat.mul_le_mul_left _ ?_)
  · obtain ⟨x, hx, rfl⟩ := List.mem_map.1 hb
    exact h x (List.mem_of_mem_take hx)
  · rw [List.length_map]
    exact Nat.le_trans (List.length_take_le' _ _) hL
theorem small_enc {n : Int} (h : i64R n) : (PutM.encB n).size ≤ 10 := (PutM.encB_size h.1 h.2).2
end Go.Proofs.YtlgflddljhldhaaGreat.RepC
end
section
namespace Go.Proofs.YtlgflddljhldhaaGreat.RepC
open Go.RowKit RowC ValC SpanC KeptC CfC
set_option linter.unusedVariables false
set_option linter.unusedSimpArgs false
def mSees (a b : D_Label) : Bool := LabC.bB a.1 a.2 b.1 b.2
def mBelow (a b : D_Label) : Bool := LabC.belowB a.1 a.2 b.1 b.2
def noteB (x : D_Note) : ByteArray := PutM.encB x.1 ++ PutM.encB x.2
def logB (b : D_Box) : ByteArray := PutM.encB (b.2.2.length : Int) ++ catTo noteB b.2.2 b.2.2.length
def fromL (p : D_Pair) : D_Label := p.1
noncomputable def partM (sees : D_Label → D_Label → Bool) (sel : D_Pair → D_Label) (f : D_Box → ByteArray) (P : List D_Pair) (m : List D_Box) (l : D_Label) (i : Nat) : ByteArray :=
  match P[i]?, m[i]? with
  | some p, some b => if sees (sel p) l = true then PutM.encB (i : Int) ++ f b else ⟨#[]⟩
  | _, _ => ⟨#[]⟩
theorem partM_yes {sees : D_Label → D_Label → Bool} {sel : D_Pair → D_Label} {f : D_Box → ByteArray} {P : List D_Pair} {m : List D_Box} {l : D_Label} {i : Nat} {p : D_Pair} {b : D_Box} (hp : P[i]? = some p) (hb : m[i]? = some b) (h : sees (sel p) l = true) : partM sees sel f P m l i = PutM.encB (i : Int) ++ f b := by
  unfold partM
  rw [hp, hb]
  exact if_pos h
theorem partM_no {sees : D_Label → D_Label → Bool} {sel : D_Pair → D_Label} {f : D_Box → ByteArray} {P : List D_Pair} {m : List D_Box} {l : D_Label} {i : Nat} {p : D_Pair} {b : D_Box} (hp : P[i]? = some p) (hb : m[i]? = some b) (h : sees (sel p) l = false) : partM sees sel f P m l i = ⟨#[]⟩ := by
  unfold partM
  rw [hp, hb]
  exact if_neg (by rw [h]; decide)
noncomputable def catM (sees : D_Label → D_Label → Bool) (sel : D_Pair → D_Label) (f : D_Box → ByteArray) (P : List D_Pair) (m : List D_Box) (l : D_Label) (k : Nat) : ByteArray := catB ((List.range k).map (partM sees sel f P m l))
theorem catM_step {sees : D_Label → D_Label → Bool} {sel : D_Pair → D_Label} {f : D_Box → ByteArray} {P : List D_Pair} {m : List D_Box} {l : D_Label} (k : Nat) : catM sees sel f P m l (k + 1) = catM sees sel f P m l k ++ partM sees sel f P m l k := by
  unfold catM
  rw [List.range_succ, List.map_append, catB_app]
  simp only [List.map_cons, List.map_nil, catB, ba_nil]
theorem catM_size {sees : D_Label → D_Label → Bool} {sel : D_Pair → D_Label} {f : D_Box → ByteArray} {P : List D_Pair} {m : List D_Box} {l : D_Label} {c : Nat} (h : ∀ (i : Nat) b, m[i]? = some b → (f b).size ≤ c) (k : Nat) (hk : k ≤ 4) : (catM sees sel f P m l k).size ≤ (c + 10) * 4 := by
  unfold catM
  refine Nat.le_trans (catB_size (c := c + 10) fun b hb => ?_) (Nat.mul_le_mul_left _ (by simpa using hk))
  obtain ⟨i, hi, rfl⟩ := List.mem_map.1 hb
  have hi2 : i < k := List.mem_range.1 hi
  unfold partM
  cases hp : P[i]? with
  | none => exact Nat.zero_le _
  | some p =>
    cases hm : m[i]? with
    | none => exact Nat.zero_le _
    | some x =>
      have h1 := h i x hm
      have h2 := small_enc (n := (i : Int)) ⟨by omega, by omega⟩
      show (if sees (sel p) l = true then PutM.encB (i : Int) ++ f x else ⟨#[]⟩ : ByteArray).size ≤ c + 10
      split
      · rw [ByteArray.size_append]; omega
      · exact Nat.zero_le _
noncomputable def readM (sel : D_Pair → D_Label) (f : D_Box → ByteArray) (d : D_Config) (m : D_Mail) (l : D_Label) : ByteArray := if mailB d m = true ∧ LabC.rB l.1 l.2 = true then catM mSees sel f d.2.1 m l d.2.1.length else ⟨#[]⟩
theorem readM_yes {sel : D_Pair → D_Label} {f : D_Box → ByteArray} {d : D_Config} {m : D_Mail} {l : D_Label} (h1 : mailB d m = true) (h2 : LabC.rB l.1 l.2 = true) : readM sel f d m l = catM mSees sel f d.2.1 m l d.2.1.length := if_pos ⟨h1, h2⟩
theorem readM_no1 {sel : D_Pair → D_Label} {f : D_Box → ByteArray} {d : D_Config} {m : D_Mail} {l : D_Label} (h1 : mailB d m = false) : readM sel f d m l = ⟨#[]⟩ := if_neg fun h => by rw [h1] at h; cases h.1
theorem readM_no2 {sel : D_Pair → D_Label} {f : D_Box → ByteArray} {d : D_Config} {m : D_Mail} {l : D_Label} (h2 : LabC.rB l.1 l.2 = false) : readM sel f d m l = ⟨#[]⟩ := if_neg fun h => by rw [h2] at h; cases h.2
theorem catM_congr {s1 s2 : D_Label → D_Label → Bool} {sel : D_Pair → D_Label} {f : D_Box → ByteArray} {P : List D_Pair} {m : List D_Box} {l : D_Label} (h : ∀ (i : Nat) p, P[i]? = some p → s1 (sel p) l = s2 (sel p) l) (k : Nat) : catM s1 sel f P m l k = catM s2 sel f P m l k := by
  unfold catM
  congr 1
  refine List.map_congr_left fun i _ => ?_
  unfold partM
  cases hp : P[i]? with
  | none => rfl
  | some p =>
    cases hm : m[i]? with
    | none => rfl
    | some b => simp only [h i p hp]
theorem catM_none {s1 : D_Label → D_Label → Bool} {sel : D_Pair → D_Label} {f : D_Box → ByteArray} {P : List D_Pair} {m : List D_Box} {l : D_Label} (h : ∀ (i : Nat) p, P[i]? = some p → s1 (sel p) l = false) (k : Nat) : catM s1 sel f P m l k = ⟨#[]⟩ := by
  induction k with
  | zero => rfl
  | succ k ih =>
    rw [catM_step, ih]
    unfold partM
    cases hp : P[k]? with
    | none => exact ba_nil _
    | some p =>
      cases hm : m[k]? with
      | none => exact ba_nil _
      | some b => simp only [h k p hp, Bool.false_eq_true, if_false]; exact ba_nil _
theorem pair_labs {d : D_Config} {m : D_Mail} (h : mailP d m) {i : Nat} {p : D_Pair} (hp : d.2.1[i]? = some p) : LabC.rB p.1.1 p.1.2 = true ∧ LabC.rB p.2.1.1 p.2.1.2 = true := by
  have h1 := h.1.2.2.2.1.2 i p hp
  exact ⟨(LabC.rB_iff _ _).2 (mem_labs.1 h1.1).1, (LabC.rB_iff _ _).2 (mem_labs.1 h1.2.1).1⟩
theorem readM_prog {sel : D_Pair → D_Label} {f : D_Box → ByteArray} {d : D_Config} {m : D_Mail} {l : D_Label} (h : mailB d m = true) (hs : ∀ p : D_Pair, LabC.rB p.1.1 p.1.2 = true ∧ LabC.rB p.2.1.1 p.2.1.2 = true → LabC.rB (sel p).1 (sel p).2 = true) : readM sel f d m l = catM mBelow sel f d.2.1 m l d.2.1.length := by
  have hm := mailB_iff.1 h
  cases hr : LabC.rB l.1 l.2 with
  | true =>
    rw [readM_yes h hr]
    exact catM_congr (fun i p hp => (LabC.below_yes (hs p (pair_labs hm hp)) hr).symm) _
  | false =>
    rw [readM_no2 hr, catM_none fun i p hp => LabC.below_no2 hr]
theorem noteB_size {x : D_Note} (h : BdN x) : (noteB x).size ≤ 20 := by
  have h1 := small_enc h.1
  have h2 := small_enc h.2
  unfold noteB
  rw [ByteArray.size_append]
  omega
theorem notes_size {L : List D_Note} {n : Nat} (hL : L.length ≤ n) (h : ∀ x ∈ L, BdN x) (k : Nat) : (catTo noteB L k).size ≤ 20 * n := catTo_size k hL fun x hx => noteB_size (h x hx)
theorem logB_size {b : D_Box} (h12 : b.2.2.length ≤ 12) (h : BdB b) : (logB b).size ≤ 250 := by
  have h1 := notes_size h12 h.2.2 b.2.2.length
  have h2 := small_enc (n := (b.2.2.length : Int)) ⟨by omega, by omega⟩
  unfold logB
  rw [ByteArray.size_append]
  omega
theorem mail_here {d : D_Config} {m : D_Mail} (h : mailP d m) {i : Nat} {x : D_Box} (hx : m[i]? = some x) : x.1.length ≤ 3 ∧ x.2.1.length ≤ 3 ∧ x.2.2.length ≤ 12 := by
  obtain ⟨p, _, hb, _, h3⟩ := mail_pair h hx
  have h1 := hb.1
  have h2 := hb.2.1
  exact ⟨by omega, by omega, hb.2.2.1⟩
end Go.Proofs.YtlgflddljhldhaaGreat.RepC
end
