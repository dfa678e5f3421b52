/- What a law owns and marks: general helpers. -/
import Derived.Test.YtjpkeofpcpaoaaaPoolM
import Derived.Test.YtjpkeofpcpaoaaaJobC
namespace Go.Proofs.Ytjpkeofpcpaoaaa.RepC
open Go.RowKit RowC ValC
set_option linter.unusedVariables false

/-- a slice in blocks of its own that are there -/
def OwX {α : Type} (E : Rp α) (w : World) (S : Nat → Prop) (L : List α) (a : Option Addr) (c : Nat) : Prop := OwSl E w S L a c ∧ ∀ k, S k → k < w.heap.size
theorem OwX.mv {α : Type} {E : Rp α} (hE : Ok E) {w w' : World} {S : Nat → Prop} {L : List α} {a : Option Addr} {c : Nat} (h : OwX E w S L a c) (hb : Below w.heap.size w w') : OwX E w' S L a c :=
  ⟨h.1.keep hE fun k hk => hb.block k (h.2 k hk), fun k hk => Nat.lt_of_lt_of_le (h.2 k hk) hb.size⟩
theorem OwX.off {α : Type} {E : Rp α} (hE : Ok E) {w w' : World} {S T : Nat → Prop} {L : List α} {a : Option Addr} {c : Nat} (h : OwX E w S L a c) (ho : Off T w w') (hd : ∀ k, S k → ¬ T k) : OwX E w' S L a c :=
  ⟨h.1.keep hE fun k hk => ho.block k (h.2 k hk) (hd k hk), fun k hk => Nat.lt_of_lt_of_le (h.2 k hk) ho.size⟩
theorem OwX.rd {α : Type} {E : Rp α} (hE : Ok E) {w : World} {S : Nat → Prop} {L : List α} {a : Option Addr} {c : Nat} (h : OwX E w S L a c) : RdSl E w w.heap.size L a c := h.1.rd hE h.2
theorem rd_sl {α : Type} {E : Rp α} (hE : Ok E) {L : List α} {a : Option Addr} {c : Nat} {w : World} {m : Nat} (h : OwSl E w (Rg m w.heap.size) L a c) : RdSl E w w.heap.size L a c := h.rd hE fun k hk => hk.2
theorem cm_ints : ∀ L : List Int, sumL I.cm L = L.length
  | [] => rfl
  | x :: xs => by simp only [sumL, cm_ints xs, List.length_cons]; show 1 + xs.length = _; omega
theorem cm_job (d : D_Job) : R_Job.cm d ≤ 8 + R_Job.sz d := by
  obtain ⟨⟨x0, x1⟩, x2, x3, x4, x5, x6, x7, L⟩ := d
  have := cm_ints L
  simp only [R_Job, R_Label, Pr, Sl, I, atom] at *
  omega
theorem cm_jobs : ∀ L : List D_Job, sumL R_Job.cm L ≤ 8 * L.length + sumL R_Job.sz L
  | [] => by simp [sumL]
  | d :: ds => by
    have h1 := cm_jobs ds
    have h2 := cm_job d
    simp only [sumL, List.length_cons]
    omega
theorem cm_small {L : List D_Job} (h : (Sl R_Job).sz L ≤ 1048576) : sumL R_Job.cm L ≤ 9437184 := by
  have h1 := cm_jobs L
  have h2 : L.length + sumL R_Job.sz L ≤ 1048576 := h
  omega
theorem cm_labs : ∀ L : List D_Label, sumL R_Label.cm L = 2 * L.length
  | [] => rfl
  | x :: xs => by simp only [sumL, cm_labs xs, List.length_cons]; show 1 + 1 + _ = _; omega
theorem cm_labss : ∀ C : List (List D_Label), sumL (Sl R_Label).cm C ≤ 2 * sumL (Sl R_Label).sz C
  | [] => by simp [sumL]
  | x :: xs => by
    have h1 := cm_labss xs
    have h2 := cm_labs x
    have h3 := flat_LabelS x
    simp only [sumL]
    show sumL R_Label.cm x + _ ≤ _
    omega
theorem cm_clear {C : List (List D_Label)} (h : (Sl (Sl R_Label)).sz C ≤ 1048576) : sumL (Sl R_Label).cm C ≤ 2097152 := by
  have h1 := cm_labss C
  have h2 : C.length + sumL (Sl R_Label).sz C ≤ 1048576 := h
  omega
/-- held, whatever the lengths are called -/
theorem held_poolout {L0 : List (List (D_Label))} {L1 : List (D_Job)} {n0 n1 : Nat} {x2 : Int} {x3 : Int} {x4 : Int} {a0 : Option Addr} {c0 : Nat} {a1 : Option Addr} {c1 : Nat} {W : World} {k z0 z1 : Int} (hn0 : L0.length = n0) (hn1 : L1.length = n1) (h0 : 0 ≤ k) (h1 : z1 ≤ 4611686018427387904) (hm0 : mmL (Sl R_Label) L0 k z0) (hm1 : mmL R_Job L1 z0 z1) (h_L0 : RdSl (Sl R_Label) W W.heap.size L0 a0 c0) (h_L1 : RdSl R_Job W W.heap.size L1 a1 c1) :
    Calls Try.prog 50 #[.agg #[.slice a0 n0 c0, .slice a1 n1 c1, .int .i64 x2, .int .i64 x3, .int .i64 x4], .int .i64 k] W (HeldC z1 W) := by
  subst hn0 hn1
  exact held_PoolOut h0 h1 hm0 hm1 h_L0 h_L1
end Go.Proofs.Ytjpkeofpcpaoaaa.RepC
