/- The order of labels, as the library's sort asks for it. -/
import Derived.Test.YtmmnkdilnlhbfaaTk
import Derived.Test.YtmmnkdilnlhbfaaLbC
import Derived.Test.YtmmnkdilnlhbfaaGrwC
import Derived.Test.YtmmnkdilnlhbfaaSortLb
import Derived.Test.YtmmnkdilnlhbfaaRep3
import Derived.Test.YtmmnkdilnlhbfaaTk
namespace Go.Proofs.Ytmmnkdilnlhbfaa.SortC
open Go.Shelf Go.RowKit RepC Go.Lib Go.Sort
set_option linter.unusedVariables false
set_option linter.unusedSimpArgs false

abbrev LC := Int × Int
def encL (x : LC) : List Value := [.int .i64 x.1, .int .i64 x.2]
def cfL (x y : LC) : Int := labI x.1 x.2 y.1 y.2
theorem ltL (x y : LC) : ltOf cfL x y = true ↔ (x.1 < y.1 ∨ x.1 = y.1 ∧ x.2 < y.2) := by
  unfold ltOf cfL labI orI
  rcases cmpI x.1 y.1 with ⟨e1, h1⟩ | ⟨e1, h1⟩ | ⟨e1, h1⟩ <;> rcases cmpI x.2 y.2 with ⟨e2, h2⟩ | ⟨e2, h2⟩ | ⟨e2, h2⟩ <;> rw [e1, e2] <;> simp <;> omega
theorem labI_ge (a0 a1 b0 b1 : Int) : 0 ≤ labI a0 a1 b0 b1 ↔ ¬ (a0 < b0 ∨ a0 = b0 ∧ a1 < b1) := by
  unfold labI orI
  rcases cmpI a0 b0 with ⟨e1, h1⟩ | ⟨e1, h1⟩ | ⟨e1, h1⟩ <;> rcases cmpI a1 b1 with ⟨e2, h2⟩ | ⟨e2, h2⟩ | ⟨e2, h2⟩ <;> rw [e1, e2] <;> simp <;> omega
theorem swoL : SWO (ltOf cfL) where
  irrefl x := by
    rw [Bool.eq_false_iff]; intro h; rw [ltL] at h; omega
  trans x y z h1 h2 := by rw [ltL] at *; omega
  ntrans x y z h1 h2 := by rw [Bool.eq_false_iff, ne_eq, ltL] at *; omega
theorem cmpLaysL (blk off size : Nat) (w : World) : CmpLays Try.prog 107 #[] encL 2 cfL blk off size w := fun m os dk _ x y =>
  (bylab_v x.1 x.2 y.1 y.2 _).mono fun _ _ ⟨he, hw⟩ => ⟨he, 1, _, hw.trans (grow3 _ _ _ _)⟩
/-- the library's sort of labels: a permutation, in the order of byLabel -/
theorem sort_labs (blk off cap : Nat) (d : Array LC) (w : World) (hH : HoldsK encL 2 w blk off d) (hblk : blk < w.heap.size) (hsz : d.size < 4611686018427387904) :
    Calls Try.prog 134 #[.slice (some ⟨blk, off, none⟩) d.size cap, .func (.func 107) #[] #[]] w fun e w' => e = .returned (.tuple #[]) ∧ ∃ d' n os, PermIn 0 d.size d d' ∧ SortedIn (ltOf cfL) 0 d.size d' ∧ w' = sortWorldK encL 2 w blk off n d' os := by
  have eg : ∀ args w, (callFunc 107 args).run Try.prog w = .ok (.enter 107 args) w := enters_of Try.func107 (by kernel_rfl) rfl
  exact AnyQ.slices_SortFunc Try.sortLab 2 Try.isAgg38 Try.sizeOf38 encL (fun _ => rfl) (fun x v hv => by simp [encL] at hv; rcases hv with rfl | rfl <;> rfl) cfL swoL 107 #[] blk off cap d w eg (cmpLaysL blk off d.size w) hH hblk hsz
end Go.Proofs.Ytmmnkdilnlhbfaa.SortC
