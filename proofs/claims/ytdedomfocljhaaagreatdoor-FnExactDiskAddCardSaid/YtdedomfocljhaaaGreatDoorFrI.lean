/- getFour, frameIn: contracts. -/
import Derived.Test.YtdedomfocljhaaaGreatDoorTk
import Derived.Test.YtdedomfocljhaaaGreatDoorTk
import Derived.Test.YtdedomfocljhaaaGreatDoorFrQ
import Derived.Test.YtdedomfocljhaaaGreatDoorFrB
import Derived.Test.YtdedomfocljhaaaGreatDoorTk
import Derived.Test.YtdedomfocljhaaaGreatDoorRep3
namespace Go.Proofs.YtdedomfocljhaaaGreatDoor.FrC
open Go.RowKit PutM PutC JoinC SealC SpanC GetM GetC CrcC KeptC RepC
set_option linter.unusedVariables false
set_option linter.unusedSimpArgs false
set_option maxRecDepth 100000

theorem or_i64 {a b : Nat} (ha : a < 9223372036854775808) (hb : b < 9223372036854775808) : bits .or .i64 (a : Int) (b : Int) = ((a ||| b : Nat) : Int) := by
  have hx : a ||| b < 2 ^ 63 := Nat.or_lt_two_pow (by omega) (by omega)
  show IntKind.i64.wrap ((BitVec.ofInt 64 (a : Int) ||| BitVec.ofInt 64 (b : Int)).toNat : Int) = _
  rw [BitVec.toNat_or, bv_nat (by omega), bv_nat (by omega)]
  simp only [IntKind.wrap, IntKind.bits, IntKind.signed]
  simp
  omega
theorem or_sum {u x : Nat} (k : Nat) (hu : u < 2 ^ k) (h : u + x * 2 ^ k < 9223372036854775808) : bits .or .i64 (u : Int) ((x * 2 ^ k : Nat) : Int) = ((u + x * 2 ^ k : Nat) : Int) := by
  rw [or_i64 (by omega) (by omega), Nat.or_comm, Nat.mul_comm, ← Nat.two_pow_add_eq_or_of_lt hu, Nat.add_comm, Nat.mul_comm]
theorem four_bits {a b c d : Nat} (ha : a < 256) (hb : b < 256) (hc : c < 256) (hd : d < 256) :
    bits .or .i64 (bits .or .i64 (bits .or .i64 (a : Int) ((b : Int) * 256)) ((c : Int) * 65536)) ((d : Int) * 16777216) = (a : Int) + (256 : Int) * (b : Int) + (65536 : Int) * (c : Int) + (16777216 : Int) * (d : Int) := by
  have e1 := or_sum (u := a) (x := b) 8 (by omega) (by omega)
  have e2 := or_sum (u := a + b * 2 ^ 8) (x := c) 16 (by omega) (by omega)
  have e3 := or_sum (u := a + b * 2 ^ 8 + c * 2 ^ 16) (x := d) 24 (by omega) (by omega)
  rw [show ((b : Int) * 256) = ((b * 2 ^ 8 : Nat) : Int) by omega, e1, show ((c : Int) * 65536) = ((c * 2 ^ 16 : Nat) : Int) by omega, e2, show ((d : Int) * 16777216) = ((d * 2 ^ 24 : Nat) : Int) by omega, e3]
  omega
set_option maxHeartbeats 1600000 in
theorem getfour (u : ByteArray) (w : World) (h : 4 ≤ u.size) : Calls Tryz.prog 78 #[.string u] w fun e w' => e = .returned (.int .i64 (fourN u)) ∧ Below w.heap.size w w' := by
  have i0 : 0 < u.size := by omega
  have i1 : 1 < u.size := by omega
  have i2 : 2 < u.size := by omega
  have i3 : 3 < u.size := by omega
  have hF := four_bits u[0].toNat_lt u[1].toNat_lt u[2].toNat_lt u[3].toNat_lt
  have HE := Lib.hid (show fourN u = (u[0].toNat : Int) + (256 : Int) * (u[1].toNat : Int) + (65536 : Int) * (u[2].toNat : Int) + (16777216 : Int) * (u[3].toNat : Int) from by unfold fourN; rw [bt_at i0, bt_at i1, bt_at i2, bt_at i3])
  have b0 : 0 ≤ (u[0].toNat : Int) ∧ (u[0].toNat : Int) < 256 := ⟨by omega, by have := u[0].toNat_lt; omega⟩
  have b1 : 0 ≤ (u[1].toNat : Int) ∧ (u[1].toNat : Int) < 256 := ⟨by omega, by have := u[1].toNat_lt; omega⟩
  have b2 : 0 ≤ (u[2].toNat : Int) ∧ (u[2].toNat : Int) < 256 := ⟨by omega, by have := u[2].toNat_lt; omega⟩
  have b3 : 0 ≤ (u[3].toNat : Int) ∧ (u[3].toNat : Int) < 256 := ⟨by omega, by have := u[3].toNat_lt; omega⟩
  have j0 : (0 : Int) < (u.size : Int) := by omega
  have j1 : (1 : Int) < (u.size : Int) := by omega
  have j2 : (2 : Int) < (u.size : Int) := by omega
  have j3 : (3 : Int) < (u.size : Int) := by omega
  have HF := Lib.hid hF
  clear hF
  go_enter Tryz.func78, Tryz.ntmps78
  go_wp2
  go_region
  all_goals
    go_wp2
    go_ret
    exact ⟨by rw [HE.out, ← HF.out] <;> rfl, (Below.refl _ _).drew⟩
theorem cut_rest (u : ByteArray) (h : 4 ≤ u.size) (hu : u.size ≤ 8000) (w : World) : (Instr.slice 9 (.string u) (some (.int .i64 4)) none none).run Tryz.prog w = .ok (.string (restF u)) w := by
  rw [run_slice_string_l w 9 u Tryz.underlying9 .i64 4 (by omega) (by omega)]
  rfl
theorem frame_ib (n : Int) (t : ByteArray) (w : World) {b : Bool} (hb : frB n t = b) (ht : t.size ≤ maxLen) : Calls Tryz.prog 26 #[.agg #[.int .i64 n, .string t]] w fun e w' => e = .returned (.bool b) ∧ Below w.heap.size w w' := by
  subst hb
  exact frame_i n t w ht
set_option maxHeartbeats 1600000 in
theorem framein (u : ByteArray) (W : World) (hu : u.size ≤ 8000) : Calls Tryz.prog 75 #[.string u] W fun e w' => e = .returned (if 4 ≤ u.size then .tuple #[.agg #[.int .i64 (fourN u), .string (restF u)], .bool (frB (fourN u) (restF u))] else .tuple #[.agg #[.int .i64 0, .string ⟨#[]⟩], .bool false]) ∧ Below W.heap.size W w' := by
  obtain ⟨w0, hw0⟩ : ∃ w, w = W.alloc (.cells #[.int .i64 0, .string ⟨#[]⟩] 36) := ⟨_, rfl⟩
  have HB0 := Lib.hid (show Below W.heap.size W w0 from by rw [hw0]; exact (Below.refl _ _).alloc (Nat.le_refl _) _)
  have X1 := Lib.hid (show Blk w0 W.heap.size 36 #[.int .i64 0, .string ⟨#[]⟩] from by rw [hw0]; exact Blk.new _ _ _)
  by_cases h4 : 4 ≤ u.size
  rotate_left
  · have hd : decide ((u.size : Int) < 4) = true := decide_eq_true (by omega)
    rw [if_neg h4]
    have q0 := X1.out.at_ 0 rfl
    have q1 := X1.out.at_ 1 rfl
    have s0 := X1.out.soft 0
    have s1 := X1.out.soft 1
    clear h4
    go_enter Tryz.func75, Tryz.ntmps75
    go_upto_region 1 with fail
    rw [← hw0]
    clear hw0
    go_wp2
    exact bodyPost_ret (v := .tuple #[.agg #[.int .i64 0, .string ⟨#[]⟩], .bool false]) (by simp [results, Tryz.results75, go_sem, *]) rfl ⟨rfl, (HB0.out.setCell (p := ⟨W.heap.size, 0, none⟩) (Nat.le_refl _) _).setCell (p := ⟨W.heap.size, 1, none⟩) (Nat.le_refl _) _⟩
  · have hd : decide ((u.size : Int) < 4) = false := decide_eq_false (by omega)
    rw [if_pos h4]
    have hcut0 := cut_rest u h4 hu
    have hr := restF_size (u := u)
    obtain ⟨b, hb⟩ : ∃ b, frB (fourN u) (restF u) = b := ⟨_, rfl⟩
    have HF := Lib.hid (fun w => frame_ib (fourN u) (restF u) w hb (by unfold maxLen; omega))
    rw [hb]
    have HW0 := Lib.hid X1.out.lt
    clear hb hr
    go_enter Tryz.func75, Tryz.ntmps75
    go_upto_region 1 with fail
    rw [← hw0]
    clear hw0
    go_upto_region 3 with fail
    go_cut [4] (fun s8 wx => ∃ g : Nat, s8 = .pointer (some ⟨g, 0, none⟩) ∧ Hid (Blk wx g 36 #[.int .i64 (fourN u), .string (restF u)]) ∧ Hid (w0.heap.size ≤ g) ∧ Hid (Below w0.heap.size w0 wx))
    case first =>
      refine wp_region_held_drew (S := (fun V => Below w0.heap.size w0 V)) (by kernel_rfl) ((Below.refl _ _).drew) (fun hHeld => ?_)
      refine tk 0 hHeld ?_
      refine tk 2 hHeld ?_
      refine tk 3 hHeld ?_
      refine rd2 1 5 (fun K hK => ?_) (fun K hK => ?_)
      · skip
        go_simp
        go_at_call 78
        refine (getfour u _ h4).mono ?_
        rintro e v3_1 ⟨rfl, hb⟩
        refine hK.out _ _ (hHeld.trans (hb.mono hHeld.size)) (fun hHeld => ?_)
        clear hK K hb
        refine tk 4 hHeld ?_
        refine rd1 5 (fun K hK => ?_)
        go_simp
        have hb : Below (v3_1).heap.size (v3_1) (v3_1.alloc (.cells #[.int .i64 0, .string ⟨#[]⟩] 36)) := (Below.refl _ _).alloc (Nat.le_refl _) _
        have GB := Lib.hid (show Blk (v3_1.alloc (.cells #[.int .i64 0, .string ⟨#[]⟩] 36)) v3_1.heap.size 36 #[.int .i64 0, .string ⟨#[]⟩] from Blk.new (v3_1) 36 #[.int .i64 0, .string ⟨#[]⟩])
        have HGE := Lib.hid (show w0.heap.size ≤ v3_1.heap.size from hHeld.size)
        have hPre := Lib.hid hHeld
        refine hK.out _ _ (hHeld.trans (hb.mono hHeld.size)) (fun hHeld => ?_)
        clear hK K hb
        refine rd1 6 (fun K hK => ?_)
        go_simp
        refine hK.out _ _ (hPre.out.alloc HGE.out (.cells #[.int .i64 (fourN u), .string (restF u)] 36)) (fun hHeld => ?_)
        clear hK K
        refine rd0 ?_
        go_wp2_with fail
        go_meet
        exact ⟨_, rfl, Lib.hid (Blk.new v3_1 36 #[.int .i64 (fourN u), .string (restF u)]), HGE, Lib.hid hHeld⟩
      · skip
        go_simp
        have hb : Below (w0.drew).heap.size (w0.drew) ((w0.drew).alloc (.cells #[.int .i64 0, .string ⟨#[]⟩] 36)) := (Below.refl _ _).alloc (Nat.le_refl _) _
        have GB := Lib.hid (show Blk ((w0.drew).alloc (.cells #[.int .i64 0, .string ⟨#[]⟩] 36)) w0.heap.size 36 #[.int .i64 0, .string ⟨#[]⟩] from Blk.new (w0.drew) 36 #[.int .i64 0, .string ⟨#[]⟩])
        have HGE := Lib.hid (show w0.heap.size ≤ w0.heap.size from hHeld.size)
        refine hK.out _ _ (hHeld.trans (hb.mono hHeld.size)) (fun hHeld => ?_)
        clear hK K hb
        refine rd1 1 (fun K hK => ?_)
        go_simp
        go_at_call 78
        refine (getfour u _ h4).mono ?_
        rintro e v3_2 ⟨rfl, hb⟩
        have GB := Lib.hid (GB.out.call hb)
        refine hK.out _ _ (hHeld.trans (hb.mono hHeld.size)) (fun hHeld => ?_)
        clear hK K hb
        refine tk 4 hHeld ?_
        refine rd1 6 (fun K hK => ?_)
        have q0 := GB.out.at_ 0 rfl
        have f0 := GB.out.soft 0
        have q1 := GB.out.at_ 1 rfl
        have f1 := GB.out.soft 1
        go_simp
        refine hK.out _ _ ((hHeld.setCell (p := ⟨w0.heap.size, 0, none⟩) (by exact HGE.out) (.int .i64 (fourN u))).setCell (p := ⟨w0.heap.size, 1, none⟩) (by exact HGE.out) (.string (restF u))) (fun hHeld => ?_)
        clear hK K q0 f0 q1 f1
        refine rd0 ?_
        go_wp2_with fail
        go_meet
        exact ⟨_, rfl, Lib.hid (Blk.as ((GB.out.set 0 (.int .i64 (fourN u))).set 1 (.string (restF u))) (by kernel_rfl)), HGE, Lib.hid hHeld⟩
    case rest =>
    obtain ⟨g, rfl, HXg, HGg, HBg⟩ := hcut
    rename World => w1
    have X1 := Lib.hid (X1.out.call HBg.out)
    have HB1 := Lib.hid (HB0.out.trans (HBg.out.mono HB0.out.size))
    have hne : g ≠ W.heap.size := fun e => by
      have h1 := HGg.out
      have h2 := HW0.out
      omega
    have q0 := HXg.out.at_ 0 rfl
    have q1 := HXg.out.at_ 1 rfl
    go_upto_region 4 with fail
    refine wp_region_held_drew (S := (fun V => V.cell? ⟨g, 0, none⟩ = some (.int .i64 (fourN u)) ∧ V.cell? ⟨g, 1, none⟩ = some (.string (restF u)))) (by kernel_rfl) (⟨q0, q1⟩) (fun hHeld => ?_)
    refine tk 0 hHeld ?_ (hy := fun w hSw => by (try dsimp only at hSw); have k0 := hSw.1; have k1 := hSw.2; clear hSw; go_simp; try with_reducible rfl)
    refine tk 1 hHeld ?_ (hy := fun w hSw => by (try dsimp only at hSw); have k0 := hSw.1; have k1 := hSw.2; clear hSw; go_simp; try with_reducible rfl)
    refine rd1 2 (fun K hK => ?_)
    go_simp
    go_at_call 26
    refine (HF.out _).mono ?_
    rintro e v ⟨rfl, hb⟩
    have HXv := Lib.hid (show Blk v g 36 #[.int .i64 (fourN u), .string (restF u)] from (hb.block _ HXg.out.lt).trans HXg.out)
    have X1v := Lib.hid (show Blk v W.heap.size 36 #[.int .i64 0, .string ⟨#[]⟩] from (hb.block _ X1.out.lt).trans X1.out)
    have HBv := Lib.hid (HB1.out.trans ((show Below w1.heap.size w1 v from (Below.refl _ _).drew.trans hb).mono HB1.out.size))
    clear hb
    refine hK.out _ _ ⟨HXv.out.at_ 0 rfl, HXv.out.at_ 1 rfl⟩ (fun hHeld => ?_)
    clear hK K
    refine rd1 3 (fun K hK => ?_)
    have z0 := X1v.out.at_ 0 rfl
    have z1 := X1v.out.at_ 1 rfl
    have s0 := X1v.out.soft 0
    have s1 := X1v.out.soft 1
    go_simp
    refine hK.out _ _ ⟨((HXv.out.far hne _).far hne _).at_ 0 rfl, ((HXv.out.far hne _).far hne _).at_ 1 rfl⟩ (fun hHeld => ?_)
    clear hK K
    refine tk 4 hHeld ?_
    refine rd0 ?_
    go_wp2
    have z0 := X1v.out.at_ 0 rfl
    have z1 := X1v.out.at_ 1 rfl
    exact bodyPost_ret (v := .tuple #[.agg #[.int .i64 (fourN u), .string (restF u)], .bool b]) (by simp [results, Tryz.results75, go_sem, z0, z1]) rfl ⟨rfl, (HBv.out.setCell (p := ⟨W.heap.size, 0, none⟩) (Nat.le_refl _) _).setCell (p := ⟨W.heap.size, 1, none⟩) (Nat.le_refl _) _⟩
end Go.Proofs.YtdedomfocljhaaaGreatDoor.FrC
