/- Of this claim's texts the part 28: MlLi. -/
import Derived.Test.YtlgflddljhldhaaGreatPN22
import Derived.Test.YtlgflddljhldhaaGreatPN26
import Derived.Test.YtlgflddljhldhaaGreatPN27
section
namespace Go.Proofs.YtlgflddljhldhaaGreat.RepC
open Go.RowKit RowC ValC SpanC KeptC CfC
set_option linter.unusedVariables false
set_option linter.unusedSimpArgs false
set_option maxRecDepth 100000 in
set_option maxHeartbeats 1600000 in
theorem takes_impl {F G : List Int} {N : List D_Note} {fa ga la : Option Addr} {fc gc lc : Nat} {f0 f1 t0 t1 rt : Int} {W : World} {b : Bool} (hb : decide ((F.length : Int) < rt) = b) (hF : F.length ≤ 9223372036854775807) :
    Calls Tryz.prog 47 #[.agg #[.slice fa F.length fc, .slice ga G.length gc, .slice la N.length lc], .agg #[.int .i64 f0, .int .i64 f1, .int .i64 t0, .int .i64 t1, .int .i64 rt]] W (IsB b W) := by
  obtain ⟨w0, hw0⟩ : ∃ w, w = (W.alloc (.cells #[.slice fa F.length fc, .slice ga G.length gc, .slice la N.length lc] 73)).alloc (.cells #[.int .i64 f0, .int .i64 f1, .int .i64 t0, .int .i64 t1, .int .i64 rt] 77) := ⟨_, rfl⟩
  have hb0 : Below W.heap.size W w0 := by rw [hw0]; exact ((Below.refl _ _).alloc (Nat.le_refl _) _).alloc (by simp) _
  have x0_ : Blk w0 (W.heap.size) 73 #[.slice fa F.length fc, .slice ga G.length gc, .slice la N.length lc] := by
    have h9 := Blk.new W 73 #[.slice fa F.length fc, .slice ga G.length gc, .slice la N.length lc]
    try simp only [World.size_alloc] at h9
    rw [hw0]; exact (h9.alloc _)
  have X0 := Lib.hid x0_
  have x1_ : Blk w0 (W.heap.size + 1) 77 #[.int .i64 f0, .int .i64 f1, .int .i64 t0, .int .i64 t1, .int .i64 rt] := by
    have h9 := Blk.new (W.alloc (.cells #[.slice fa F.length fc, .slice ga G.length gc, .slice la N.length lc] 73)) 77 #[.int .i64 f0, .int .i64 f1, .int .i64 t0, .int .i64 t1, .int .i64 rt]
    try simp only [World.size_alloc] at h9
    rw [hw0]; exact h9
  have X1 := Lib.hid x1_
  have HB0 := Lib.hid hb0
  have hz0 := hb0.size
  clear hb0  x0_ x1_
  go_enter Tryz.func47, Tryz.ntmps47
  go_upto_region 1 with fail
  rw [← hw0]
  clear hw0
  have qX0_0 := X0.out.at_ 0 rfl
  have qX0_1 := X0.out.at_ 1 rfl
  have qX0_2 := X0.out.at_ 2 rfl
  have qX1_0 := X1.out.at_ 0 rfl
  have qX1_1 := X1.out.at_ 1 rfl
  have qX1_2 := X1.out.at_ 2 rfl
  have qX1_3 := X1.out.at_ 3 rfl
  have qX1_4 := X1.out.at_ 4 rfl
  go_wp2
  go_ret
  exact ⟨by first | rfl | rw [← hb], HB0.out⟩
end Go.Proofs.YtlgflddljhldhaaGreat.RepC
end
