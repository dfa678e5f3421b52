/- Of this claim's texts the part 26: MlVp. -/
import Derived.Test.YtlgflddljhldhaaGreatPV21
section
namespace Go.Proofs.YtlgflddljhldhaaGreat.RepC
open Go.RowKit RowC ValC SpanC KeptC CfC
set_option linter.unusedVariables false
set_option linter.unusedSimpArgs false
set_option maxRecDepth 100000 in
set_option maxHeartbeats 3200000 in
theorem words_impl {G : List Int} {ga : Option Addr} {gc : Nat} {W : World} (h3 : G.length ≤ 3) (hR : ∀ n ∈ G, i64R n) (h : RdSl I W W.heap.size G ga gc) :
    Calls Tryz.prog 68 #[.slice ga G.length gc] W fun e w' => e = .returned (.string (PutM.encB (G.length : Int) ++ catTo wordB G G.length)) ∧ Below W.heap.size W w' := by
  have H := Lib.hid h
  have HR := Lib.hid hR
  have R1 := Lib.hid (show i64R (G.length : Int) from ⟨by omega, by omega⟩)
  obtain ⟨p1, hp1⟩ : ∃ b, PutM.encB (G.length : Int) = b := ⟨_, rfl⟩
  have s1 : p1.size ≤ 10 := by rw [← hp1]; exact small_enc R1.out
  have G1 := Lib.hid hp1
  rw [hp1]
  have hcw := catTo_word G G.length
  rw [List.take_length] at hcw
  rw [hcw]
  have s2 : (catL G).size ≤ 10 * G.length := catL_size hR
  obtain ⟨p2, hp2⟩ : ∃ b, catL G = b := ⟨_, rfl⟩
  rw [hp2] at s2
  have G2 := Lib.hid hp2
  rw [hp2]
  have hadd := fun w : World => run_string_add_sum (P := Tryz.prog) w p1 p2 (by omega)
  clear h hR hp1 hcw hp2
  go_enter Tryz.func68, Tryz.ntmps68
  go_wp2_with fail
  refine (putI_at (G.length : Int) G1.out R1.out _).mono ?_
  rintro e w1 ⟨rfl, hb⟩
  have HB1 := Lib.hid hb
  have H1 := Lib.hid (rd_mv I_ok H.out hb)
  clear hb
  go_wp2_with fail
  have hpn := putnums_w (by omega) HR.out H1.out
  rw [G2.out] at hpn
  refine hpn.mono ?_
  rintro e w2 ⟨rfl, hb⟩
  have HB2 := Lib.hid (HB1.out.trans (hb.mono HB1.out.size))
  clear hb hpn
  go_wp2
  go_ret
  exact ⟨rfl, HB2.out⟩
end Go.Proofs.YtlgflddljhldhaaGreat.RepC
end
