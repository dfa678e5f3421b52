/- Of this claim's texts the part 28: TaE3 YvD1. -/
import Derived.Test.YtelhmacfljffhabGreatPV0
import Derived.Test.YtelhmacfljffhabGreatPV1
import Derived.Test.YtelhmacfljffhabGreatPV2
import Derived.Test.YtelhmacfljffhabGreatPV3
import Derived.Test.YtelhmacfljffhabGreatPV4
import Derived.Test.YtelhmacfljffhabGreatPV5
import Derived.Test.YtelhmacfljffhabGreatPV6
import Derived.Test.YtelhmacfljffhabGreatPV7
import Derived.Test.YtelhmacfljffhabGreatPV8
import Derived.Test.YtelhmacfljffhabGreatPV9
import Derived.Test.YtelhmacfljffhabGreatPV10
import Derived.Test.YtelhmacfljffhabGreatPV11
import Derived.Test.YtelhmacfljffhabGreatPV12
import Derived.Test.YtelhmacfljffhabGreatPV13
import Derived.Test.YtelhmacfljffhabGreatPV14
import Derived.Test.YtelhmacfljffhabGreatPV15
import Derived.Test.YtelhmacfljffhabGreatPV16
import Derived.Test.YtelhmacfljffhabGreatPV17
import Derived.Test.YtelhmacfljffhabGreatPV18
import Derived.Test.YtelhmacfljffhabGreatPV19
import Derived.Test.YtelhmacfljffhabGreatPV20
import Derived.Test.YtelhmacfljffhabGreatPV21
import Derived.Test.YtelhmacfljffhabGreatPV22
import Derived.Test.YtelhmacfljffhabGreatPV23
import Derived.Test.YtelhmacfljffhabGreatPV24
import Derived.Test.YtelhmacfljffhabGreatPV25
import Derived.Test.YtelhmacfljffhabGreatPV26
import Derived.Test.YtelhmacfljffhabGreatPV27
section
namespace Go.Proofs.YtelhmacfljffhabGreat.RepC
open Go.RowKit RowC ValC SpanC KeptC NameC
set_option linter.unusedVariables false
set_option linter.unusedSimpArgs false
theorem heldAlloc {V0 w : World} (h : Below V0.heap.size V0 w) (o : Obj) : Below w.heap.size w (w.alloc o) := (Below.refl _ _).alloc (Nat.le_refl _) o
theorem heldBlk {V0 w : World} (h : Below V0.heap.size V0 w) (t : TypeId) (cs : Array Value) : Blk (w.alloc (.cells cs t)) w.heap.size t cs := Blk.new w t cs
theorem putnums_n {L : List Int} {n : Nat} {a : Option Addr} {cap : Nat} {W : World} (hn : L.length = n) (hl : L.length ≤ 1000000) (hR : ∀ n ∈ L, i64R n) (h : RdSl I W W.heap.size L a cap) :
    Calls Tryz.prog 71 #[.slice a n cap] W fun e w' => e = .returned (.string (catL L)) ∧ Below W.heap.size W w' := by
  subst hn
  exact putnums_w hl hR h
theorem blkInts {W : World} {g : Nat} {t : TypeId} {cs : Array Value} {L : List Int} (h : Blk W g t cs) (hl9 : L.length ≤ 1000) (e : cs.toList = L.map fun n => .int .i64 n) : RdSl I W W.heap.size L (some ⟨g, 0, none⟩) L.length := by
  have hl : cs.toList.length = L.length := by rw [e, List.length_map]
  refine ⟨Nat.le_refl _, ?_, fun _ => ⟨g, 0, rfl, h.lt, fun i x hx => ⟨[.int .i64 x], ?_, rfl⟩⟩⟩
  · unfold maxLen; omega
  · intro j c hj
    have hj0 : j = 0 := by
      have := (List.getElem?_eq_some_iff.1 hj).1
      simpa using this
    subst hj0
    simp only [List.getElem?_cons_zero, Option.some.injEq] at hj
    subst hj
    have h2 : cs[i]? = some (.int .i64 x) := by
      rw [← Array.getElem?_toList, e, List.getElem?_map, hx]
      rfl
    have h3 := h.at_ i h2
    simpa [show I.size = 1 from rfl] using h3
set_option maxRecDepth 100000 in
set_option maxHeartbeats 8000000 in
theorem bytes_impl {x0 x1 x2 : Int} {x3 : ByteArray} {x4 x5 x6 x7 x8 x9 x10 x11 x12 : Int} {M : List Int} {ba : Option Addr} {bc : Nat} {W : World} (hx : R_Task.rd W W.heap.size ((x0, x1), x2, x3, x4, x5, x6, (x7, x8), x9, x10, x11, x12, M) [.int .i64 x0, .int .i64 x1, .int .i64 x2, .string x3, .int .i64 x4, .int .i64 x5, .int .i64 x6, .int .i64 x7, .int .i64 x8, .int .i64 x9, .int .i64 x10, .int .i64 x11, .int .i64 x12, .slice ba M.length bc]) :
    Calls Tryz.prog 30 #[.agg #[.int .i64 x0, .int .i64 x1, .int .i64 x2, .string x3, .int .i64 x4, .int .i64 x5, .int .i64 x6, .int .i64 x7, .int .i64 x8, .int .i64 x9, .int .i64 x10, .int .i64 x11, .int .i64 x12, .slice ba M.length bc]] W fun e w' => e = .returned (.string (bytesT ((x0, x1), x2, x3, x4, x5, x6, (x7, x8), x9, x10, x11, x12, M))) ∧ Below W.heap.size W w' := by
  have HX := Lib.hid hx
  obtain ⟨_, _, he, hk, b_x3⟩ := rd_Task hx
  cases he
  have HK := Lib.hid hk
  have HX3 := Lib.hid b_x3
  have hn : M.length ≤ 9223372036854775807 := by have h1 := hk.1; have h2 := hk.2.1; unfold maxLen at h2; omega
  clear hx hk b_x3
  obtain ⟨wo, hwo⟩ : ∃ w, w = W.alloc (.cells #[.int .i64 x0, .int .i64 x1, .int .i64 x2, .string x3, .int .i64 x4, .int .i64 x5, .int .i64 x6, .int .i64 x7, .int .i64 x8, .int .i64 x9, .int .i64 x10, .int .i64 x11, .int .i64 x12, .slice ba M.length bc] 66) := ⟨_, rfl⟩
  have HB0 := Lib.hid (show Below W.heap.size W wo from by rw [hwo]; exact (Below.refl _ _).alloc (Nat.le_refl _) _)
  have HP0 := Lib.hid (show Blk wo W.heap.size 66 #[.int .i64 x0, .int .i64 x1, .int .i64 x2, .string x3, .int .i64 x4, .int .i64 x5, .int .i64 x6, .int .i64 x7, .int .i64 x8, .int .i64 x9, .int .i64 x10, .int .i64 x11, .int .i64 x12, .slice ba M.length bc] from by rw [hwo]; exact Blk.new _ _ _)
  have HX0 := Lib.hid (R_Task_ok.rd_more (R_Task_ok.rd_below HX.out HB0.out) HB0.out.size)
  have q0 := HP0.out.at_ 0 rfl
  have q1 := HP0.out.at_ 1 rfl
  have q2 := HP0.out.at_ 2 rfl
  have q3 := HP0.out.at_ 3 rfl
  have q4 := HP0.out.at_ 4 rfl
  have q5 := HP0.out.at_ 5 rfl
  have q6 := HP0.out.at_ 6 rfl
  have q7 := HP0.out.at_ 7 rfl
  have q8 := HP0.out.at_ 8 rfl
  have q9 := HP0.out.at_ 9 rfl
  have q10 := HP0.out.at_ 10 rfl
  have q11 := HP0.out.at_ 11 rfl
  have q12 := HP0.out.at_ 12 rfl
  have q13 := HP0.out.at_ 13 rfl
  go_enter Tryz.func30, Tryz.ntmps30
  go_upto_region 1 with fail
  rw [← hwo]
  clear hwo
  go_wp2_with fail
  refine (taskI_w HX0.out).mono ?_
  rintro e w1 ⟨rfl, hb⟩
  have HB1 := Lib.hid (HB0.out.trans (hb.mono HB0.out.size))
  have HP1 := Lib.hid (HP0.out.call hb)
  have HK1 := Lib.hid ((HK.out.below I_ok HB1.out).more I_ok HB1.out.size)
  clear q0 q1 q2 q3 q4 q5 q6 q7 q8 q9 q10 q11 q12 q13 hb
  cases hT : taskB ((x0, x1), x2, x3, x4, x5, x6, (x7, x8), x9, x10, x11, x12, M) with
  | false =>
    have HE := Lib.hid (bytesT_no hT)
    clear hT
    go_wp2
    go_ret
    exact ⟨by rw [HE.out]; rfl, HB1.out⟩
  | true =>
    have HT := Lib.hid (taskB_iff.1 hT)
    have HE := Lib.hid (show bytesT ((x0, x1), x2, x3, x4, x5, x6, (x7, x8), x9, x10, x11, x12, M) = preT x0 x1 x2 x3 x4 x5 x6 x7 x8 x9 x10 x11 x12 M ++ catL M from bytesT_yes hT)
    clear hT
    obtain ⟨r0, r1, r2, r4, r5, r6, r7, r8, r9, r10, r11, r12, rM, rO, rN⟩ := taskR_small HT.out
    have r13 : (0 : Int) ≤ (M.length : Int) ∧ (M.length : Int) ≤ 2000000 := ⟨by omega, by omega⟩
    have HR1 := Lib.hid (show ∀ n ∈ [x0, x1, x2], i64R n from by intro n hn; simp only [List.mem_cons, List.not_mem_nil, or_false] at hn; rcases hn with rfl | rfl | rfl <;> apply r64 <;> assumption)
    have HR2 := Lib.hid (show ∀ n ∈ [x4, x5, x6, x7, x8, x9, x10, x11, x12, (M.length : Int)], i64R n from by intro n hn; simp only [List.mem_cons, List.not_mem_nil, or_false] at hn; rcases hn with rfl | rfl | rfl | rfl | rfl | rfl | rfl | rfl | rfl | rfl <;> apply r64 <;> assumption)
    have HR3 := Lib.hid (show ∀ n ∈ M, i64R n from fun n hn => r64 (rN n hn))
    obtain ⟨c1, g1⟩ : ∃ b, catL [x0, x1, x2] = b := ⟨_, rfl⟩
    obtain ⟨b3, g3⟩ : ∃ b, JoinC.putT x3 = b := ⟨_, rfl⟩
    obtain ⟨c2, g2⟩ : ∃ b, catL [x4, x5, x6, x7, x8, x9, x10, x11, x12, (M.length : Int)] = b := ⟨_, rfl⟩
    obtain ⟨c3, g4⟩ : ∃ b, catL M = b := ⟨_, rfl⟩
    have s1 : c1.size ≤ 30 := by rw [← g1]; exact catL_size HR1.out
    have s2 : c2.size ≤ 100 := by rw [← g2]; exact catL_size HR2.out
    have s3 : b3.size ≤ 30 := by rw [← g3]; exact putT30 rO
    have s4 : c3.size ≤ 60 := by rw [← g4]; exact Nat.le_trans (catL_size HR3.out) (by omega)
    have HE2 := Lib.hid (show bytesT ((x0, x1), x2, x3, x4, x5, x6, (x7, x8), x9, x10, x11, x12, M) = ((c1 ++ b3) ++ c2) ++ c3 from by rw [HE.out, ← g1, ← g2, ← g3, ← g4]; unfold preT; simp only [catL, ba_nil, ByteArray.append_assoc])
    have HC1 := Lib.hid g1
    have HC2 := Lib.hid g2
    have HC3 := Lib.hid g4
    have G3 := Lib.hid g3
    clear g1 g2 g3 g4 rN rO r0 r1 r2 r4 r5 r6 r7 r8 r9 r10 r11 r12 r13
    have z1 : (c1 ++ b3).size ≤ 60 := by rw [ByteArray.size_append]; omega
    have z2 : ((c1 ++ b3) ++ c2).size ≤ 160 := by rw [ByteArray.size_append]; omega
    have hadd1 := fun w : World => run_string_add_sum (P := Tryz.prog) w c1 b3 (by omega)
    have hadd2 := fun w : World => run_string_add_sum (P := Tryz.prog) w (c1 ++ b3) c2 (by omega)
    have hadd3 := fun w : World => run_string_add_sum (P := Tryz.prog) w ((c1 ++ b3) ++ c2) c3 (by omega)
    clear s1 s2 s3 s4 z1 z2
    go_wp2_with fail
    refine wp_region_held_drew (S := (fun V => Below w1.heap.size w1 V)) (by kernel_rfl) ((Below.refl _ _).drew) (fun hHeld => ?_)
    refine tk 0 hHeld ?_
    refine tk 1 hHeld ?_
    refine tk 2 hHeld ?_ (hy := fun w hSw => by (try dsimp only at hSw); have k0 := (hSw.cell (p := ⟨W.heap.size, 0, none⟩) HP1.out.lt).trans (HP1.out.at_ 0 rfl); clear hSw; go_simp; try with_reducible rfl)
    refine tk 3 hHeld ?_
    refine tk 4 hHeld ?_
    refine tk 5 hHeld ?_ (hy := fun w hSw => by (try dsimp only at hSw); have k0 := (hSw.cell (p := ⟨W.heap.size, 1, none⟩) HP1.out.lt).trans (HP1.out.at_ 1 rfl); clear hSw; go_simp; try with_reducible rfl)
    refine tk 6 hHeld ?_
    refine tk 7 hHeld ?_ (hy := fun w hSw => by (try dsimp only at hSw); have k0 := (hSw.cell (p := ⟨W.heap.size, 2, none⟩) HP1.out.lt).trans (HP1.out.at_ 2 rfl); clear hSw; go_simp; try with_reducible rfl)
    refine tk 10 hHeld ?_
    refine tk 11 hHeld ?_ (hy := fun w hSw => by (try dsimp only at hSw); have k0 := (hSw.cell (p := ⟨W.heap.size, 3, none⟩) HP1.out.lt).trans (HP1.out.at_ 3 rfl); clear hSw; go_simp; try with_reducible rfl)
    refine tk 14 hHeld ?_
    refine tk 15 hHeld ?_ (hy := fun w hSw => by (try dsimp only at hSw); have k0 := (hSw.cell (p := ⟨W.heap.size, 4, none⟩) HP1.out.lt).trans (HP1.out.at_ 4 rfl); clear hSw; go_simp; try with_reducible rfl)
    refine tk 16 hHeld ?_
    refine tk 17 hHeld ?_ (hy := fun w hSw => by (try dsimp only at hSw); have k0 := (hSw.cell (p := ⟨W.heap.size, 5, none⟩) HP1.out.lt).trans (HP1.out.at_ 5 rfl); clear hSw; go_simp; try with_reducible rfl)
    refine tk 18 hHeld ?_
    refine tk 19 hHeld ?_ (hy := fun w hSw => by (try dsimp only at hSw); have k0 := (hSw.cell (p := ⟨W.heap.size, 6, none⟩) HP1.out.lt).trans (HP1.out.at_ 6 rfl); clear hSw; go_simp; try with_reducible rfl)
    refine tk 20 hHeld ?_
    refine tk 21 hHeld ?_
    refine tk 22 hHeld ?_ (hy := fun w hSw => by (try dsimp only at hSw); have k0 := (hSw.cell (p := ⟨W.heap.size, 7, none⟩) HP1.out.lt).trans (HP1.out.at_ 7 rfl); clear hSw; go_simp; try with_reducible rfl)
    refine tk 23 hHeld ?_
    refine tk 24 hHeld ?_
    refine tk 25 hHeld ?_ (hy := fun w hSw => by (try dsimp only at hSw); have k0 := (hSw.cell (p := ⟨W.heap.size, 8, none⟩) HP1.out.lt).trans (HP1.out.at_ 8 rfl); clear hSw; go_simp; try with_reducible rfl)
    refine tk 26 hHeld ?_
    refine tk 27 hHeld ?_ (hy := fun w hSw => by (try dsimp only at hSw); have k0 := (hSw.cell (p := ⟨W.heap.size, 9, none⟩) HP1.out.lt).trans (HP1.out.at_ 9 rfl); clear hSw; go_simp; try with_reducible rfl)
    refine tk 28 hHeld ?_
    refine tk 29 hHeld ?_ (hy := fun w hSw => by (try dsimp only at hSw); have k0 := (hSw.cell (p := ⟨W.heap.size, 10, none⟩) HP1.out.lt).trans (HP1.out.at_ 10 rfl); clear hSw; go_simp; try with_reducible rfl)
    refine tk 30 hHeld ?_
    refine tk 31 hHeld ?_ (hy := fun w hSw => by (try dsimp only at hSw); have k0 := (hSw.cell (p := ⟨W.heap.size, 11, none⟩) HP1.out.lt).trans (HP1.out.at_ 11 rfl); clear hSw; go_simp; try with_reducible rfl)
    refine tk 32 hHeld ?_
    refine tk 33 hHeld ?_ (hy := fun w hSw => by (try dsimp only at hSw); have k0 := (hSw.cell (p := ⟨W.heap.size, 12, none⟩) HP1.out.lt).trans (HP1.out.at_ 12 rfl); clear hSw; go_simp; try with_reducible rfl)
    refine tk 34 hHeld ?_
    refine tk 35 hHeld ?_ (hy := fun w hSw => by (try dsimp only at hSw); have k0 := (hSw.cell (p := ⟨W.heap.size, 13, none⟩) HP1.out.lt).trans (HP1.out.at_ 13 rfl); clear hSw; go_simp; try with_reducible rfl)
    refine tk 36 hHeld ?_
    refine tk 40 hHeld ?_
    refine tk 41 hHeld ?_ (hy := fun w hSw => by (try dsimp only at hSw); have k0 := (hSw.cell (p := ⟨W.heap.size, 13, none⟩) HP1.out.lt).trans (HP1.out.at_ 13 rfl); clear hSw; go_simp; try with_reducible rfl)
    refine rd2 8 37 (fun K hK => ?_) (fun K hK => ?_)
    · skip
      go_simp
      have hb := heldAlloc hHeld (.cells #[.int .i64 x0, .int .i64 x1, .int .i64 x2] 2)
      try have KB := Lib.hid (KB.out.call hb)
      have KA := Lib.hid (heldBlk hHeld 2 #[.int .i64 x0, .int .i64 x1, .int .i64 x2])
      have ka := KA.out
      try simp only [World.size_drew, World.size_alloc] at ka
      have KA := Lib.hid ka
      clear ka
      refine hK.out _ _ (hHeld.trans (hb.mono hHeld.size)) (fun hHeld => ?_)
      clear hb
      clear hK K
      refine rd2 9 37 (fun K hK => ?_) (fun K hK => ?_)
      · skip
        go_simp
        go_at_call 71
        refine (putnums_n (L := [x0, x1, x2]) rfl (by simp) HR1.out (blkInts KA.out (by simp) rfl)).mono ?_
        rintro e v1 ⟨rfl, hb⟩
        rw [HC1.out]
        try have KB := Lib.hid (KB.out.call hb)
        refine hK.out _ _ (hHeld.trans (hb.mono hHeld.size)) (fun hHeld => ?_)
        clear hb
        clear hK K
        refine rd2 12 37 (fun K hK => ?_) (fun K hK => ?_)
        · skip
          go_simp
          go_at_call 74
          refine (textI_at x3 G3.out HX3.out _).mono ?_
          rintro e v2 ⟨rfl, hb⟩
          try have KB := Lib.hid (KB.out.call hb)
          refine hK.out _ _ (hHeld.trans (hb.mono hHeld.size)) (fun hHeld => ?_)
          clear hb
          clear hK K
          refine tk 13 hHeld ?_
          refine rd1 37 (fun K hK => ?_)
          go_simp
          have hb := heldAlloc hHeld (.cells #[.int .i64 x4, .int .i64 x5, .int .i64 x6, .int .i64 x7, .int .i64 x8, .int .i64 x9, .int .i64 x10, .int .i64 x11, .int .i64 x12, .int .i64 (M.length : Int)] 2)
          try have KA := Lib.hid (KA.out.call hb)
          have KB := Lib.hid (heldBlk hHeld 2 #[.int .i64 x4, .int .i64 x5, .int .i64 x6, .int .i64 x7, .int .i64 x8, .int .i64 x9, .int .i64 x10, .int .i64 x11, .int .i64 x12, .int .i64 (M.length : Int)])
          have kb := KB.out
          try simp only [World.size_drew, World.size_alloc] at kb
          have KB := Lib.hid kb
          clear kb
          refine hK.out _ _ (hHeld.trans (hb.mono hHeld.size)) (fun hHeld => ?_)
          clear hb
          clear hK K
          refine rd1 38 (fun K hK => ?_)
          go_simp
          go_at_call 71
          refine (putnums_n (L := [x4, x5, x6, x7, x8, x9, x10, x11, x12, (M.length : Int)]) rfl (by simp) HR2.out (blkInts KB.out (by simp) rfl)).mono ?_
          rintro e v3 ⟨rfl, hb⟩
          rw [HC2.out]
          refine hK.out _ _ (hHeld.trans (hb.mono hHeld.size)) (fun hHeld => ?_)
          clear hb
          clear hK K
          refine tk 39 hHeld ?_
          refine rd1 42 (fun K hK => ?_)
          go_simp
          go_at_call 71
          refine (putnums_n (L := M) rfl (by omega) HR3.out ((HK1.out.below I_ok hHeld).more I_ok hHeld.size)).mono ?_
          rintro e v4 ⟨rfl, hb⟩
          rw [HC3.out]
          refine hK.out _ _ (hHeld.trans (hb.mono hHeld.size)) (fun hHeld => ?_)
          clear hb
          clear hK K
          refine tk 43 hHeld ?_
          refine tk 44 hHeld ?_
          refine rd0 ?_
          have HB2 := Lib.hid (HB1.out.trans (hHeld.mono HB1.out.size))
          clear hHeld
          skip
          go_wp2
          go_ret
          exact ⟨by rw [HE2.out]; rfl, HB2.out⟩
        · skip
          go_simp
          have hb := heldAlloc hHeld (.cells #[.int .i64 x4, .int .i64 x5, .int .i64 x6, .int .i64 x7, .int .i64 x8, .int .i64 x9, .int .i64 x10, .int .i64 x11, .int .i64 x12, .int .i64 (M.length : Int)] 2)
          try have KA := Lib.hid (KA.out.call hb)
          have KB := Lib.hid (heldBlk hHeld 2 #[.int .i64 x4, .int .i64 x5, .int .i64 x6, .int .i64 x7, .int .i64 x8, .int .i64 x9, .int .i64 x10, .int .i64 x11, .int .i64 x12, .int .i64 (M.length : Int)])
          have kb := KB.out
          try simp only [World.size_drew, World.size_alloc] at kb
          have KB := Lib.hid kb
          clear kb
          refine hK.out _ _ (hHeld.trans (hb.mono hHeld.size)) (fun hHeld => ?_)
          clear hb
          clear hK K
          refine rd1 12 (fun K hK => ?_)
          go_simp
          go_at_call 74
          refine (textI_at x3 G3.out HX3.out _).mono ?_
          rintro e v2 ⟨rfl, hb⟩
          try have KB := Lib.hid (KB.out.call hb)
          refine hK.out _ _ (hHeld.trans (hb.mono hHeld.size)) (fun hHeld => ?_)
          clear hb
          clear hK K
          refine tk 13 hHeld ?_
          refine rd1 38 (fun K hK => ?_)
          go_simp
          go_at_call 71
          refine (putnums_n (L := [x4, x5, x6, x7, x8, x9, x10, x11, x12, (M.length : Int)]) rfl (by simp) HR2.out (blkInts KB.out (by simp) rfl)).mono ?_
          rintro e v3 ⟨rfl, hb⟩
          rw [HC2.out]
          refine hK.out _ _ (hHeld.trans (hb.mono hHeld.size)) (fun hHeld => ?_)
          clear hb
          clear hK K
          refine tk 39 hHeld ?_
          refine rd1 42 (fun K hK => ?_)
          go_simp
          go_at_call 71
          refine (putnums_n (L := M) rfl (by omega) HR3.out ((HK1.out.below I_ok hHeld).more I_ok hHeld.size)).mono ?_
          rintro e v4 ⟨rfl, hb⟩
          rw [HC3.out]
          refine hK.out _ _ (hHeld.trans (hb.mono hHeld.size)) (fun hHeld => ?_)
          clear hb
          clear hK K
          refine tk 43 hHeld ?_
          refine tk 44 hHeld ?_
          refine rd0 ?_
          have HB2 := Lib.hid (HB1.out.trans (hHeld.mono HB1.out.size))
          clear hHeld
          skip
          go_wp2
          go_ret
          exact ⟨by rw [HE2.out]; rfl, HB2.out⟩
      · skip
        go_simp
        have hb := heldAlloc hHeld (.cells #[.int .i64 x4, .int .i64 x5, .int .i64 x6, .int .i64 x7, .int .i64 x8, .int .i64 x9, .int .i64 x10, .int .i64 x11, .int .i64 x12, .int .i64 (M.length : Int)] 2)
        try have KA := Lib.hid (KA.out.call hb)
        have KB := Lib.hid (heldBlk hHeld 2 #[.int .i64 x4, .int .i64 x5, .int .i64 x6, .int .i64 x7, .int .i64 x8, .int .i64 x9, .int .i64 x10, .int .i64 x11, .int .i64 x12, .int .i64 (M.length : Int)])
        have kb := KB.out
        try simp only [World.size_drew, World.size_alloc] at kb
        have KB := Lib.hid kb
        clear kb
        refine hK.out _ _ (hHeld.trans (hb.mono hHeld.size)) (fun hHeld => ?_)
        clear hb
        clear hK K
        refine rd1 9 (fun K hK => ?_)
        go_simp
        go_at_call 71
        refine (putnums_n (L := [x0, x1, x2]) rfl (by simp) HR1.out (blkInts KA.out (by simp) rfl)).mono ?_
        rintro e v1 ⟨rfl, hb⟩
        rw [HC1.out]
        try have KB := Lib.hid (KB.out.call hb)
        refine hK.out _ _ (hHeld.trans (hb.mono hHeld.size)) (fun hHeld => ?_)
        clear hb
        clear hK K
        refine rd1 12 (fun K hK => ?_)
        go_simp
        go_at_call 74
        refine (textI_at x3 G3.out HX3.out _).mono ?_
        rintro e v2 ⟨rfl, hb⟩
        try have KB := Lib.hid (KB.out.call hb)
        refine hK.out _ _ (hHeld.trans (hb.mono hHeld.size)) (fun hHeld => ?_)
        clear hb
        clear hK K
        refine tk 13 hHeld ?_
        refine rd1 38 (fun K hK => ?_)
        go_simp
        go_at_call 71
        refine (putnums_n (L := [x4, x5, x6, x7, x8, x9, x10, x11, x12, (M.length : Int)]) rfl (by simp) HR2.out (blkInts KB.out (by simp) rfl)).mono ?_
        rintro e v3 ⟨rfl, hb⟩
        rw [HC2.out]
        refine hK.out _ _ (hHeld.trans (hb.mono hHeld.size)) (fun hHeld => ?_)
        clear hb
        clear hK K
        refine tk 39 hHeld ?_
        refine rd1 42 (fun K hK => ?_)
        go_simp
        go_at_call 71
        refine (putnums_n (L := M) rfl (by omega) HR3.out ((HK1.out.below I_ok hHeld).more I_ok hHeld.size)).mono ?_
        rintro e v4 ⟨rfl, hb⟩
        rw [HC3.out]
        refine hK.out _ _ (hHeld.trans (hb.mono hHeld.size)) (fun hHeld => ?_)
        clear hb
        clear hK K
        refine tk 43 hHeld ?_
        refine tk 44 hHeld ?_
        refine rd0 ?_
        have HB2 := Lib.hid (HB1.out.trans (hHeld.mono HB1.out.size))
        clear hHeld
        skip
        go_wp2
        go_ret
        exact ⟨by rw [HE2.out]; rfl, HB2.out⟩
    · skip
      go_simp
      have hb := heldAlloc hHeld (.cells #[.int .i64 x4, .int .i64 x5, .int .i64 x6, .int .i64 x7, .int .i64 x8, .int .i64 x9, .int .i64 x10, .int .i64 x11, .int .i64 x12, .int .i64 (M.length : Int)] 2)
      try have KA := Lib.hid (KA.out.call hb)
      have KB := Lib.hid (heldBlk hHeld 2 #[.int .i64 x4, .int .i64 x5, .int .i64 x6, .int .i64 x7, .int .i64 x8, .int .i64 x9, .int .i64 x10, .int .i64 x11, .int .i64 x12, .int .i64 (M.length : Int)])
      have kb := KB.out
      try simp only [World.size_drew, World.size_alloc] at kb
      have KB := Lib.hid kb
      clear kb
      refine hK.out _ _ (hHeld.trans (hb.mono hHeld.size)) (fun hHeld => ?_)
      clear hb
      clear hK K
      refine rd1 8 (fun K hK => ?_)
      go_simp
      have hb := heldAlloc hHeld (.cells #[.int .i64 x0, .int .i64 x1, .int .i64 x2] 2)
      try have KB := Lib.hid (KB.out.call hb)
      have KA := Lib.hid (heldBlk hHeld 2 #[.int .i64 x0, .int .i64 x1, .int .i64 x2])
      have ka := KA.out
      try simp only [World.size_drew, World.size_alloc] at ka
      have KA := Lib.hid ka
      clear ka
      refine hK.out _ _ (hHeld.trans (hb.mono hHeld.size)) (fun hHeld => ?_)
      clear hb
      clear hK K
      refine rd1 9 (fun K hK => ?_)
      go_simp
      go_at_call 71
      refine (putnums_n (L := [x0, x1, x2]) rfl (by simp) HR1.out (blkInts KA.out (by simp) rfl)).mono ?_
      rintro e v1 ⟨rfl, hb⟩
      rw [HC1.out]
      try have KB := Lib.hid (KB.out.call hb)
      refine hK.out _ _ (hHeld.trans (hb.mono hHeld.size)) (fun hHeld => ?_)
      clear hb
      clear hK K
      refine rd1 12 (fun K hK => ?_)
      go_simp
      go_at_call 74
      refine (textI_at x3 G3.out HX3.out _).mono ?_
      rintro e v2 ⟨rfl, hb⟩
      try have KB := Lib.hid (KB.out.call hb)
      refine hK.out _ _ (hHeld.trans (hb.mono hHeld.size)) (fun hHeld => ?_)
      clear hb
      clear hK K
      refine tk 13 hHeld ?_
      refine rd1 38 (fun K hK => ?_)
      go_simp
      go_at_call 71
      refine (putnums_n (L := [x4, x5, x6, x7, x8, x9, x10, x11, x12, (M.length : Int)]) rfl (by simp) HR2.out (blkInts KB.out (by simp) rfl)).mono ?_
      rintro e v3 ⟨rfl, hb⟩
      rw [HC2.out]
      refine hK.out _ _ (hHeld.trans (hb.mono hHeld.size)) (fun hHeld => ?_)
      clear hb
      clear hK K
      refine tk 39 hHeld ?_
      refine rd1 42 (fun K hK => ?_)
      go_simp
      go_at_call 71
      refine (putnums_n (L := M) rfl (by omega) HR3.out ((HK1.out.below I_ok hHeld).more I_ok hHeld.size)).mono ?_
      rintro e v4 ⟨rfl, hb⟩
      rw [HC3.out]
      refine hK.out _ _ (hHeld.trans (hb.mono hHeld.size)) (fun hHeld => ?_)
      clear hb
      clear hK K
      refine tk 43 hHeld ?_
      refine tk 44 hHeld ?_
      refine rd0 ?_
      have HB2 := Lib.hid (HB1.out.trans (hHeld.mono HB1.out.size))
      clear hHeld
      skip
      go_wp2
      go_ret
      exact ⟨by rw [HE2.out]; rfl, HB2.out⟩
end Go.Proofs.YtelhmacfljffhabGreat.RepC
end
section
namespace Go.Proofs.YtelhmacfljffhabGreat.RepC
open Go.RowKit RowC ValC SpanC KeptC NameC CfC
set_option linter.unusedVariables false
set_option linter.unusedSimpArgs false
theorem headB_cat (x : D_Node) : catL [x.1, (x.2.length : Int)] = headB x := by unfold headB; simp only [catL, ba_nil]
theorem spanB_cat (x : D_Span) : catL [x.1, x.2] = spanB x := by unfold spanB; simp only [catL, ba_nil]
theorem two64 {a b : Int} (ha : i64R a) (hb : i64R b) : ∀ n ∈ [a, b], i64R n := by
  intro n hn
  simp only [List.mem_cons, List.not_mem_nil, or_false] at hn
  rcases hn with rfl | rfl <;> assumption
set_option maxRecDepth 100000 in
set_option maxHeartbeats 3200000 in
theorem nodebytes_impl {st : Int} {Bk : List D_Span} {ba : Option Addr} {bc : Nat} {W : World} (hok : okNd (st, Bk)) (hB : RdSl R_Span W W.heap.size Bk ba bc) :
    Calls Tryz.prog 28 #[.agg #[.int .i64 st, .slice ba Bk.length bc]] W fun e w' => e = .returned (.string (nodeB (st, Bk))) ∧ Below W.heap.size W w' := by
  have HOK := Lib.hid hok
  have hsm := node_small hok
  obtain ⟨hst, hB4_, hsp⟩ := hsm
  have hB4 : Bk.length ≤ 4 := hB4_
  clear hB4_
  have HSP := Lib.hid hsp
  have HKB := Lib.hid hB
  have HR := Lib.hid (two64 (r64 hst) (r64 (n := (Bk.length : Int)) (by omega)))
  obtain ⟨P, hP⟩ : ∃ b, headB (st, Bk) = b := ⟨_, rfl⟩
  have hPs : P.size ≤ 20 := by rw [← hP]; exact headB_size hok
  have HPC := Lib.hid (show catL [st, (Bk.length : Int)] = P from (headB_cat (st, Bk)).trans hP)
  have HPP := Lib.hid hP
  have hBn : Bk.length ≤ 9223372036854775807 := by omega
  clear hst hsp hP hB hok
  obtain ⟨w0, hw0⟩ : ∃ w, w = W.alloc (.cells #[.int .i64 st, .slice ba Bk.length bc] 60) := ⟨_, rfl⟩
  have HB0 := Lib.hid (show Below W.heap.size W w0 from by rw [hw0]; exact (Below.refl _ _).alloc (Nat.le_refl _) _)
  have X0 := Lib.hid (show Blk w0 W.heap.size 60 #[.int .i64 st, .slice ba Bk.length bc] from by rw [hw0]; exact Blk.new _ _ _)
  obtain ⟨w1, hw1⟩ : ∃ w, w = w0.alloc (.cells #[.int .i64 st, .int .i64 (Bk.length : Int)] 2) := ⟨_, rfl⟩
  have hb1 : Below w0.heap.size w0 w1 := by rw [hw1]; exact (Below.refl _ _).alloc (Nat.le_refl _) _
  have K1 := Lib.hid (show Blk w1 w0.heap.size 2 #[.int .i64 st, .int .i64 (Bk.length : Int)] from by rw [hw1]; exact Blk.new _ _ _)
  have X1 := Lib.hid (X0.out.call hb1)
  have HB1 := Lib.hid (HB0.out.trans (hb1.mono HB0.out.size))
  clear hb1
  go_enter Tryz.func28, Tryz.ntmps28
  go_upto_region 1 with fail
  rw [← hw0]
  clear hw0
  have q0 := X0.out.at_ 0 rfl
  have q1 := X0.out.at_ 1 rfl
  go_wp2_with fail
  rw [← hw1]
  clear hw1 q0 q1
  refine (putnums_n (L := [st, (Bk.length : Int)]) rfl (by simp) HR.out (blkInts K1.out (by simp) rfl)).mono ?_
  rintro e w2 ⟨rfl, hb⟩
  rw [HPC.out]
  have X2 := Lib.hid (X1.out.call hb)
  have HB2 := Lib.hid (HB1.out.trans (hb.mono HB1.out.size))
  have hz2 := HB2.out.size
  clear hb
  have q1 := X2.out.at_ 1 rfl
  go_wp2
  go_loopw [16, 3] (fun i q wr => ∃ k : Nat, k ≤ Bk.length ∧ i = .int .i64 k ∧ q = .string (P ++ catTo spanB Bk k) ∧ Below w2.heap.size w2 wr) (fun i _ _ => Bk.length - (intOf i).toNat)
  case atStart => exact ⟨0, Nat.zero_le _, rfl, by rw [catTo_zero, ba_nil], Below.refl _ _⟩
  case round =>
    obtain ⟨k, hk, rfl, rfl, hB⟩ := hrel
    obtain ⟨wo, rfl⟩ : ∃ x, x = wr := ⟨_, rfl⟩
    have HB := Lib.hid (HB2.out.trans (hB.mono hz2))
    have HC := Lib.hid hB
    have hsz := hB.size
    have hpj : (catTo spanB Bk k).size ≤ 80 := spans_size HOK.out k
    obtain ⟨P', hP'⟩ : ∃ P', P ++ catTo spanB Bk k = P' := ⟨_, rfl⟩
    have hPs' : P'.size ≤ 100 := by rw [← hP', ByteArray.size_append]; omega
    have HPP' := Lib.hid hP'
    rw [hP']
    clear hpj hP'
    by_cases hlt : k < Bk.length
    · have hdl : decide ((k : Int) < (Bk.length : Int)) = true := decide_eq_true (by omega)
      obtain ⟨⟨f, b⟩, hx⟩ := el_some hlt
      have HX := Lib.hid hx
      have hff := (HSP.out k (f, b) hx).1
      have hbb := (HSP.out k (f, b) hx).2
      obtain ⟨gs, os, us, rfl, hg, hu, hr⟩ := (rd_mv R_Span_ok HKB.out HB.out).at_ hx
      obtain rfl := rd_Span hr
      have e0 : wo.cell? ⟨gs, os + k * 2, none⟩ = some (.int .i64 f) := by simpa [size_SpanS, Nat.add_assoc] using hu 0 _ rfl
      have e1 : wo.cell? ⟨gs, os + k * 2 + 1, none⟩ = some (.int .i64 b) := by simpa [size_SpanS, Nat.add_assoc] using hu 1 _ rfl
      have hi0 : (0 : Int) ≤ (k : Int) := Int.natCast_nonneg _
      have hi1 : (k : Int) < (Bk.length : Int) := by omega
      have HR2 := Lib.hid (two64 (r64 hff) (r64 hbb))
      obtain ⟨p, hp⟩ : ∃ b2, spanB (f, b) = b2 := ⟨_, rfl⟩
      have hps : p.size ≤ 20 := by rw [← hp]; exact spanB_size ⟨hff, hbb⟩
      have HSC := Lib.hid (show catL [f, b] = p from (spanB_cat (f, b)).trans hp)
      have HST := Lib.hid (show P' ++ p = P ++ catTo spanB Bk (k + 1) from by rw [catTo_step HX.out, hp, ← HPP'.out, ByteArray.append_assoc])
      have haddP := fun w : World => run_string_add_sum (P := Tryz.prog) w P' p (by omega)
      obtain ⟨w3, hw3⟩ : ∃ w, w = wo.alloc (.cells #[.int .i64 f, .int .i64 b] 62) := ⟨_, rfl⟩
      have hb3 : Below wo.heap.size wo w3 := by rw [hw3]; exact (Below.refl _ _).alloc (Nat.le_refl _) _
      have Y3 := Lib.hid (show Blk w3 wo.heap.size 62 #[.int .i64 f, .int .i64 b] from by rw [hw3]; exact Blk.new _ _ _)
      obtain ⟨w4, hw4⟩ : ∃ w, w = w3.alloc (.cells #[.int .i64 f, .int .i64 b] 2) := ⟨_, rfl⟩
      have hb4 : Below w3.heap.size w3 w4 := by rw [hw4]; exact (Below.refl _ _).alloc (Nat.le_refl _) _
      have K4 := Lib.hid (show Blk w4 w3.heap.size 2 #[.int .i64 f, .int .i64 b] from by rw [hw4]; exact Blk.new _ _ _)
      have HC4 := Lib.hid ((HC.out.trans (hb3.mono hsz)).trans (hb4.mono (Nat.le_trans hsz hb3.size)))
      clear hB hx hu hg hr hff hbb hb3 hb4 hp
      go_upto_region 5 with fail
      rw [← hw3]
      clear hw3 e0 e1
      have y0 := Y3.out.at_ 0 rfl
      have y1 := Y3.out.at_ 1 rfl
      go_wp2_with fail
      rw [← hw4]
      clear hw4 y0 y1
      refine (putnums_n (L := [f, b]) rfl (by simp) HR2.out (blkInts K4.out (by simp) rfl)).mono ?_
      rintro e w5 ⟨rfl, hb⟩
      rw [HSC.out]
      have HC5 := Lib.hid (HC4.out.trans (hb.mono HC4.out.size))
      clear hb
      go_wp2
      go_roundw
      case rel => exact ⟨k + 1, by omega, by go_num, by rw [HST.out], HC5.out⟩
      case measure => simp [intOf]; omega
    · have hdl : decide ((k : Int) < (Bk.length : Int)) = false := decide_eq_false (by omega)
      obtain rfl : k = Bk.length := by omega
      have HST := Lib.hid (show P' = nodeB (st, Bk) from by rw [← HPP'.out, ← HPP.out]; rfl)
      clear hB
      go_wp2
      go_ret
      exact ⟨by rw [HST.out]; rfl, HB.out⟩
set_option maxRecDepth 100000 in
set_option maxHeartbeats 3200000 in
theorem usebytes_impl {u0 u1 u3 : Int} {u2 : ByteArray} {W : World} (hok : okU ((u0, u1), u2, u3)) (hml : u2.size ≤ maxLen) :
    Calls Tryz.prog 31 #[.agg #[.int .i64 u0, .int .i64 u1, .string u2, .int .i64 u3]] W fun e w' => e = .returned (.string (useB ((u0, u1), u2, u3))) ∧ Below W.heap.size W w' := by
  have HML := Lib.hid hml
  have hsm := useB_small hok
  obtain ⟨h0, h1, h2, h3⟩ := hsm
  have HR := Lib.hid (two64 (r64 h0) (r64 h1))
  have R3 := Lib.hid (r64 h3)
  obtain ⟨c1, g1⟩ : ∃ b, catL [u0, u1] = b := ⟨_, rfl⟩
  have s1 : c1.size ≤ 20 := by rw [← g1]; exact catL_size HR.out
  obtain ⟨p2, g2⟩ : ∃ b, JoinC.putT u2 = b := ⟨_, rfl⟩
  have s2 : p2.size ≤ 30 := by rw [← g2]; exact putT30 h2
  obtain ⟨p3, g3⟩ : ∃ b, PutM.encB u3 = b := ⟨_, rfl⟩
  have s3 : p3.size ≤ 10 := by rw [← g3]; exact enc10 h3
  have HE := Lib.hid (show (c1 ++ p2) ++ p3 = useB ((u0, u1), u2, u3) from by unfold useB; rw [← g1, ← g2, ← g3]; simp only [catL, ba_nil])
  have HC1 := Lib.hid g1
  have G2 := Lib.hid g2
  have G3 := Lib.hid g3
  have z1 : (c1 ++ p2).size ≤ 50 := by rw [ByteArray.size_append]; omega
  have hadd1 := fun w : World => run_string_add_sum (P := Tryz.prog) w c1 p2 (by omega)
  have hadd2 := fun w : World => run_string_add_sum (P := Tryz.prog) w (c1 ++ p2) p3 (by omega)
  clear h0 h1 h2 h3 g1 g2 g3 s1 s2 s3 z1 hml hok
  obtain ⟨w0, hw0⟩ : ∃ w, w = W.alloc (.cells #[.int .i64 u0, .int .i64 u1, .string u2, .int .i64 u3] 69) := ⟨_, rfl⟩
  have HB0 := Lib.hid (show Below W.heap.size W w0 from by rw [hw0]; exact (Below.refl _ _).alloc (Nat.le_refl _) _)
  have X0 := Lib.hid (show Blk w0 W.heap.size 69 #[.int .i64 u0, .int .i64 u1, .string u2, .int .i64 u3] from by rw [hw0]; exact Blk.new _ _ _)
  go_enter Tryz.func31, Tryz.ntmps31
  go_upto_region 1 with fail
  rw [← hw0]
  clear hw0
  · refine wp_region_held_drew (S := (fun V => Below w0.heap.size w0 V)) (by kernel_rfl) ((Below.refl _ _).drew) (fun hHeld => ?_)
    refine tk 0 hHeld ?_
    refine tk 1 hHeld ?_
    refine tk 2 hHeld ?_ (hy := fun w hSw => by (try dsimp only at hSw); have k0 := (hSw.cell (p := ⟨W.heap.size, 0, none⟩) X0.out.lt).trans (X0.out.at_ 0 rfl); clear hSw; go_simp; try with_reducible rfl)
    refine tk 3 hHeld ?_
    refine tk 4 hHeld ?_
    refine tk 5 hHeld ?_ (hy := fun w hSw => by (try dsimp only at hSw); have k0 := (hSw.cell (p := ⟨W.heap.size, 1, none⟩) X0.out.lt).trans (X0.out.at_ 1 rfl); clear hSw; go_simp; try with_reducible rfl)
    refine tk 8 hHeld ?_
    refine tk 9 hHeld ?_ (hy := fun w hSw => by (try dsimp only at hSw); have k0 := (hSw.cell (p := ⟨W.heap.size, 2, none⟩) X0.out.lt).trans (X0.out.at_ 2 rfl); clear hSw; go_simp; try with_reducible rfl)
    refine tk 12 hHeld ?_
    refine tk 13 hHeld ?_ (hy := fun w hSw => by (try dsimp only at hSw); have k0 := (hSw.cell (p := ⟨W.heap.size, 3, none⟩) X0.out.lt).trans (X0.out.at_ 3 rfl); clear hSw; go_simp; try with_reducible rfl)
    refine rd1 6 (fun K hK => ?_)
    go_simp
    have hb := heldAlloc hHeld (.cells #[.int .i64 u0, .int .i64 u1] 2)
    have KA := Lib.hid (heldBlk hHeld 2 #[.int .i64 u0, .int .i64 u1])
    have ka := KA.out
    try simp only [World.size_drew, World.size_alloc] at ka
    have KA := Lib.hid ka
    clear ka
    refine hK.out _ _ (hHeld.trans (hb.mono hHeld.size)) (fun hHeld => ?_)
    clear hb
    clear hK K
    refine rd1 7 (fun K hK => ?_)
    go_simp
    go_at_call 71
    refine (putnums_n (L := [u0, u1]) rfl (by simp) HR.out (blkInts KA.out (by simp) rfl)).mono ?_
    rintro e v1 ⟨rfl, hb⟩
    rw [HC1.out]
    refine hK.out _ _ (hHeld.trans (hb.mono hHeld.size)) (fun hHeld => ?_)
    clear hb
    clear hK K
    refine rd1 10 (fun K hK => ?_)
    go_simp
    go_at_call 74
    refine (textI_at u2 G2.out HML.out _).mono ?_
    rintro e v2 ⟨rfl, hb⟩
    refine hK.out _ _ (hHeld.trans (hb.mono hHeld.size)) (fun hHeld => ?_)
    clear hb
    clear hK K
    refine tk 11 hHeld ?_
    refine rd1 14 (fun K hK => ?_)
    go_simp
    go_at_call 27
    refine (putI_at u3 G3.out R3.out _).mono ?_
    rintro e v3 ⟨rfl, hb⟩
    refine hK.out _ _ (hHeld.trans (hb.mono hHeld.size)) (fun hHeld => ?_)
    clear hb
    clear hK K
    refine tk 15 hHeld ?_
    refine tk 16 hHeld ?_
    refine rd0 ?_
    have HB2 := Lib.hid (HB0.out.trans (hHeld.mono HB0.out.size))
    clear hHeld
    rw [HE.out]
    go_wp2
    go_ret
    exact ⟨rfl, HB2.out⟩
end Go.Proofs.YtelhmacfljffhabGreat.RepC
end
