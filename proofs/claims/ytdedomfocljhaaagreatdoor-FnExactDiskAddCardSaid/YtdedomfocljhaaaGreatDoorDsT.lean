/- The laws' data: contracts. -/
import Derived.Test.YtdedomfocljhaaaGreatDoorTk
import Derived.Test.YtdedomfocljhaaaGreatDoorJobT
import Derived.Test.YtdedomfocljhaaaGreatDoorMkT
namespace Go.Proofs.YtdedomfocljhaaaGreatDoor.RepC
open Go.RowKit RowC ValC
set_option linter.unusedVariables false
set_option linter.unusedSimpArgs false

abbrev D_Region : Type := (ByteArray) × (ByteArray) × (ByteArray)
def R_Region : Rp D_Region := (Pr St (Pr St St))
theorem R_Region_ok : Ok R_Region := (Pr_ok St_ok (Pr_ok St_ok St_ok))
theorem rd_Region {W : World} {B : Nat} {x0 : ByteArray} {x1 : ByteArray} {x2 : ByteArray} {cs : List Value} (h : R_Region.rd W B (x0, x1, x2) cs) : cs = [.string x0, .string x1, .string x2] ∧ x0.size ≤ maxLen ∧ x1.size ≤ maxLen ∧ x2.size ≤ maxLen := by
  obtain ⟨u1, v1, rfl, h1, g1⟩ := h
  obtain ⟨hq_x0, b_x0⟩ := h1
  obtain rfl : u1 = [_] := hq_x0
  obtain ⟨u2, v2, rfl, h2, g2⟩ := g1
  obtain ⟨hq_x1, b_x1⟩ := h2
  obtain rfl : u2 = [_] := hq_x1
  obtain ⟨hq_x2, b_x2⟩ := g2
  obtain rfl : v2 = [_] := hq_x2
  exact ⟨rfl, b_x0, b_x1, b_x2⟩
theorem mkrd_Region {W : World} {B : Nat} {x0 : ByteArray} {x1 : ByteArray} {x2 : ByteArray}  (b_x0 : x0.size ≤ maxLen) (b_x1 : x1.size ≤ maxLen) (b_x2 : x2.size ≤ maxLen) : R_Region.rd W B (x0, x1, x2) [.string x0, .string x1, .string x2] := ⟨[.string x0], [.string x1, .string x2], rfl, ⟨rfl, b_x0⟩, ⟨[.string x1], [.string x2], rfl, ⟨rfl, b_x1⟩, ⟨rfl, b_x2⟩⟩⟩
theorem mkow_Region {W : World} {S : Nat → Prop} {x0 : ByteArray} {x1 : ByteArray} {x2 : ByteArray}  (b_x0 : x0.size ≤ maxLen) (b_x1 : x1.size ≤ maxLen) (b_x2 : x2.size ≤ maxLen) : R_Region.ow W S (x0, x1, x2) [.string x0, .string x1, .string x2] := ⟨[.string x0], [.string x1, .string x2], (fun _ => False), (fun _ => False), rfl, (fun k h => h.elim), (fun k h => h.elim), (fun k h h' => h.elim), ⟨rfl, b_x0⟩, ⟨[.string x1], [.string x2], (fun _ => False), (fun _ => False), rfl, (fun k h => h.elim), (fun k h => h.elim), (fun k h h' => h.elim), ⟨rfl, b_x1⟩, ⟨rfl, b_x2⟩⟩⟩
theorem ow0_Region {W : World} {S : Nat → Prop} {x0 : ByteArray} {x1 : ByteArray} {x2 : ByteArray} {cs : List Value} (h : R_Region.ow W S (x0, x1, x2) cs) : cs = [.string x0, .string x1, .string x2] ∧ x0.size ≤ maxLen ∧ x1.size ≤ maxLen ∧ x2.size ≤ maxLen := by
  obtain ⟨u1, v1, A1, B1, rfl, sa1, sb1, dd1, h1, g1⟩ := h
  obtain ⟨hq_x0, b_x0⟩ := h1
  obtain rfl : u1 = [_] := hq_x0
  obtain ⟨u2, v2, A2, B2, rfl, sa2, sb2, dd2, h2, g2⟩ := g1
  obtain ⟨hq_x1, b_x1⟩ := h2
  obtain rfl : u2 = [_] := hq_x1
  obtain ⟨hq_x2, b_x2⟩ := g2
  obtain rfl : v2 = [_] := hq_x2
  exact ⟨rfl, b_x0, b_x1, b_x2⟩

abbrev D_Disk : Type := (List (D_Region)) × (Int)
def R_Disk : Rp D_Disk := (Pr (Sl R_Region) I)
theorem R_Disk_ok : Ok R_Disk := (Pr_ok (Sl_ok R_Region_ok) I_ok)
theorem rd_Disk {W : World} {B : Nat} {L0 : List (D_Region)} {x1 : Int} {cs : List Value} (h : R_Disk.rd W B (L0, x1) cs) : ∃ a0 c0, cs = [.slice a0 L0.length c0, .int .i64 x1] ∧ RdSl R_Region W B L0 a0 c0 := by
  obtain ⟨u1, v1, rfl, h1, g1⟩ := h
  obtain ⟨a0, c0, rfl, k_L0⟩ := h1
  obtain rfl : v1 = [_] := g1
  exact ⟨a0, c0, rfl, k_L0⟩
theorem mkrd_Disk {W : World} {B : Nat} {L0 : List (D_Region)} {x1 : Int} {a0 : Option Addr} {c0 : Nat} (h_L0 : RdSl R_Region W B L0 a0 c0) : R_Disk.rd W B (L0, x1) [.slice a0 L0.length c0, .int .i64 x1] := ⟨[.slice a0 L0.length c0], [.int .i64 x1], rfl, ⟨a0, c0, rfl, h_L0⟩, rfl⟩
theorem mkow_Disk {W : World} {S : Nat → Prop} {L0 : List (D_Region)} {x1 : Int} {a0 : Option Addr} {c0 : Nat} {T0 : Nat → Prop} (hs0 : ∀ k, T0 k → S k) (h_L0 : OwSl R_Region W T0 L0 a0 c0) : R_Disk.ow W S (L0, x1) [.slice a0 L0.length c0, .int .i64 x1] := ⟨[.slice a0 L0.length c0], [.int .i64 x1], T0, (fun _ => False), rfl, (fun k h => hs0 k h), (fun k h => h.elim), (fun k h h' => h'.elim), ⟨a0, c0, rfl, h_L0⟩, rfl⟩
theorem ow_Disk {W : World} {S : Nat → Prop} {L0 : List (D_Region)} {x1 : Int} {cs : List Value} (h : R_Disk.ow W S (L0, x1) cs) : ∃ a0 c0, ∃ T0 : Nat → Prop, cs = [.slice a0 L0.length c0, .int .i64 x1] ∧ (∀ k, T0 k → S k) ∧ OwSl R_Region W T0 L0 a0 c0 := by
  obtain ⟨u1, v1, A1, B1, rfl, sa1, sb1, dd1, h1, g1⟩ := h
  obtain ⟨a0, c0, rfl, k_L0⟩ := h1
  obtain rfl : v1 = [_] := g1
  exact ⟨a0, c0, A1, rfl, fun k h => sa1 k (h), k_L0⟩

abbrev D_DiskOut : Type := (D_Disk) × (Int)
def R_DiskOut : Rp D_DiskOut := (Pr R_Disk I)
theorem R_DiskOut_ok : Ok R_DiskOut := (Pr_ok R_Disk_ok I_ok)
theorem rd_DiskOut {W : World} {B : Nat} {L0 : List (D_Region)} {x1 : Int} {x2 : Int} {cs : List Value} (h : R_DiskOut.rd W B ((L0, x1), x2) cs) : ∃ a0 c0, cs = [.slice a0 L0.length c0, .int .i64 x1, .int .i64 x2] ∧ RdSl R_Region W B L0 a0 c0 := by
  obtain ⟨u1, v1, rfl, h1, g1⟩ := h
  obtain ⟨u2, v2, rfl, h2, g2⟩ := h1
  obtain ⟨a0, c0, rfl, k_L0⟩ := h2
  obtain rfl : v2 = [_] := g2
  obtain rfl : v1 = [_] := g1
  exact ⟨a0, c0, rfl, k_L0⟩
theorem mkrd_DiskOut {W : World} {B : Nat} {L0 : List (D_Region)} {x1 : Int} {x2 : Int} {a0 : Option Addr} {c0 : Nat} (h_L0 : RdSl R_Region W B L0 a0 c0) : R_DiskOut.rd W B ((L0, x1), x2) [.slice a0 L0.length c0, .int .i64 x1, .int .i64 x2] := ⟨[.slice a0 L0.length c0, .int .i64 x1], [.int .i64 x2], rfl, ⟨[.slice a0 L0.length c0], [.int .i64 x1], rfl, ⟨a0, c0, rfl, h_L0⟩, rfl⟩, rfl⟩
theorem mkow_DiskOut {W : World} {S : Nat → Prop} {L0 : List (D_Region)} {x1 : Int} {x2 : Int} {a0 : Option Addr} {c0 : Nat} {T0 : Nat → Prop} (hs0 : ∀ k, T0 k → S k) (h_L0 : OwSl R_Region W T0 L0 a0 c0) : R_DiskOut.ow W S ((L0, x1), x2) [.slice a0 L0.length c0, .int .i64 x1, .int .i64 x2] := ⟨[.slice a0 L0.length c0, .int .i64 x1], [.int .i64 x2], T0, (fun _ => False), rfl, (fun k h => hs0 k h), (fun k h => h.elim), (fun k h h' => h'.elim), ⟨[.slice a0 L0.length c0], [.int .i64 x1], T0, (fun _ => False), rfl, (fun k h => h), (fun k h => h.elim), (fun k h h' => h'.elim), ⟨a0, c0, rfl, h_L0⟩, rfl⟩, rfl⟩
theorem ow_DiskOut {W : World} {S : Nat → Prop} {L0 : List (D_Region)} {x1 : Int} {x2 : Int} {cs : List Value} (h : R_DiskOut.ow W S ((L0, x1), x2) cs) : ∃ a0 c0, ∃ T0 : Nat → Prop, cs = [.slice a0 L0.length c0, .int .i64 x1, .int .i64 x2] ∧ (∀ k, T0 k → S k) ∧ OwSl R_Region W T0 L0 a0 c0 := by
  obtain ⟨u1, v1, A1, B1, rfl, sa1, sb1, dd1, h1, g1⟩ := h
  obtain ⟨u2, v2, A2, B2, rfl, sa2, sb2, dd2, h2, g2⟩ := h1
  obtain ⟨a0, c0, rfl, k_L0⟩ := h2
  obtain rfl : v2 = [_] := g2
  obtain rfl : v1 = [_] := g1
  exact ⟨a0, c0, A2, rfl, fun k h => sa1 k (sa2 k (h)), k_L0⟩


set_option maxRecDepth 100000 in
set_option maxHeartbeats 3200000 in
theorem to_Region {x0 : ByteArray} {x1 : ByteArray} {x2 : ByteArray}  {W : World} (hsz : R_Region.sz (x0, x1, x2) ≤ 1048576) (b_x0 : x0.size ≤ maxLen) (b_x1 : x1.size ≤ maxLen) (b_x2 : x2.size ≤ maxLen) : Calls Tryz.prog 40 #[.agg #[.string x0, .string x1, .string x2]] W (NewV R_Region (x0, x1, x2) W) := by
  have HSZ := Lib.hid hsz
  clear hsz
  go_enter Tryz.func40, Tryz.ntmps40
  go_wp2
  refine bodyPost_ret (v := .agg #[.string x0, .string x1, .string x2]) (by simp [results, Tryz.results40, go_sem]) rfl ⟨[.string x0, .string x1, .string x2], rfl, mkow_Region b_x0 b_x1 b_x2, (by repeat (first | exact Below.refl _ _ | refine Below.drew ?_ | refine Below.setCell ?_ (by first | omega | (simp; done) | (simp; omega)) _ | refine Below.alloc ?_ (by first | omega | (simp; done) | (simp; omega)) _))⟩

theorem size_RegionS : (R_Region).size = 3 := rfl
def zs_RegionS (n : Nat) : Array Value := madeCells #[.string ⟨#[]⟩, .string ⟨#[]⟩, .string ⟨#[]⟩] (n * 3)
theorem zs_RegionS_size (n : Nat) : (zs_RegionS n).size = n * (R_Region).size := by unfold zs_RegionS; simp [madeCells, size_RegionS]
theorem make_RegionS (n : Nat) (hn : n ≤ 1048576) : ∀ W : World, (Instr.makeSlice 29 (.int .i64 (n : Int)) (.int .i64 (n : Int))).run Tryz.prog W = .ok (.slice (some ⟨W.heap.size, 0, none⟩) n n) (W.alloc (.cells (zs_RegionS n) 52)) := by
  intro W
  obtain ⟨i, hi, hz, hs, hb⟩ : ∃ i, Tryz.prog.info? 52 = some i ∧ i.zero = some (.agg #[.string ⟨#[]⟩, .string ⟨#[]⟩, .string ⟨#[]⟩]) ∧ i.size = 3 ∧ i.bytes = 48 := by
    have h : (Tryz.prog.info? 52).map (fun i => (i.zero, i.size, i.bytes)) = some (some (.agg #[.string ⟨#[]⟩, .string ⟨#[]⟩, .string ⟨#[]⟩]), 3, 48) := by kernel_rfl
    cases hx : Tryz.prog.info? 52 with
    | none => rw [hx] at h; simp at h
    | some i => rw [hx] at h; simp at h; exact ⟨i, rfl, h.1, h.2.1, h.2.2⟩
  have hr := run_make (P := Tryz.prog) W 29 52 i _ Tryz.underlying29 hi hz .i64 .i64 n n (by omega) (by omega) (by rw [hb]; omega) (by omega)
  rw [hs] at hr
  simp only [Int.toNat_natCast] at hr
  exact hr

set_option maxRecDepth 100000 in
set_option maxHeartbeats 3200000 in
theorem to_RegionS {L : List (D_Region)} {a : Option Addr} {cap : Nat} {W : World} (hsz : ((Sl R_Region)).sz L ≤ 1048576) (h : RdSl R_Region W W.heap.size L a cap) : Calls Tryz.prog 22 #[.slice a L.length cap] W (NewS R_Region L W) := by
  have hn : L.length ≤ 1048576 := Nat.le_trans (Nat.le_add_right _ _) hsz
  have hmk := make_RegionS L.length hn
  have H := Lib.hid h
  have HSZ := Lib.hid hsz
  clear h hsz
  go_enter Tryz.func22, Tryz.ntmps22
  go_wp2
  go_loopw [4] (fun i wr => ∃ k : Nat, k ≤ L.length ∧ i = .int .i64 k ∧ ∃ Sf, Fil R_Region W wr L W.heap.size Sf k) (fun i _ => L.length - (intOf i).toNat)
  case atStart => exact ⟨0, Nat.zero_le _, rfl, _, Fil.new (by exact zs_RegionS_size _)⟩
  case round =>
    obtain ⟨k, hk, rfl, Sf, hF⟩ := hrel
    have HF := Lib.hid hF
    by_cases hlt : k < L.length
    · obtain ⟨⟨x0, x1, x2⟩, hx⟩ := el_some hlt
      have HX := Lib.hid hx
      obtain ⟨g, o, us, rfl, hg, hu, hr⟩ := (H.out.below R_Region_ok hF.below).at_ hx
      obtain ⟨rfl, b_x0, b_x1, b_x2⟩ := rd_Region hr
      have e0 : wr.cell? ⟨g, o + k * 3, none⟩ = some (.string x0) := by simpa [size_RegionS, Nat.add_assoc] using hu 0 _ rfl
      have e1 : wr.cell? ⟨g, o + k * 3 + 1, none⟩ = some (.string x1) := by simpa [size_RegionS, Nat.add_assoc] using hu 1 _ rfl
      have e2 : wr.cell? ⟨g, o + k * 3 + 2, none⟩ = some (.string x2) := by simpa [size_RegionS, Nat.add_assoc] using hu 2 _ rfl
      have hi0 : (0 : Int) ≤ (k : Int) := Int.natCast_nonneg _
      have hi1 : (k : Int) < (L.length : Int) := by omega
      have HE := Lib.hid (sz_at (f := (R_Region).sz) HX.out HSZ.out)
      clear hF hx hu hmk
      go_wp2_with fail
      refine (to_Region (by exact HE.out) b_x0 b_x1 b_x2).mono ?_
      intro e w1 h
      obtain ⟨vs, rfl, how, hb⟩ := newV_elim h
      have HOW := Lib.hid how
      obtain ⟨rfl, _⟩ := ow0_Region how
      have HP := Lib.hid (HF.out.put R_Region_ok HX.out hb HOW.out)
      have hlt1 := HF.out.lt
      obtain ⟨t0, ht0⟩ := HF.out.there (k * 3) (by rw [size_RegionS]; omega)
      have q0 := (hb.cell (p := ⟨W.heap.size, k * 3, none⟩) hlt1).trans ht0
      have s0 := (hb.frozen (p := ⟨W.heap.size, k * 3, none⟩) hlt1).trans (HF.out.soft (k * 3))
      obtain ⟨t1, ht1⟩ := HF.out.there (k * 3 + 1) (by rw [size_RegionS]; omega)
      have q1 := (hb.cell (p := ⟨W.heap.size, k * 3 + 1, none⟩) hlt1).trans ht1
      have s1 := (hb.frozen (p := ⟨W.heap.size, k * 3 + 1, none⟩) hlt1).trans (HF.out.soft (k * 3 + 1))
      obtain ⟨t2, ht2⟩ := HF.out.there (k * 3 + 2) (by rw [size_RegionS]; omega)
      have q2 := (hb.cell (p := ⟨W.heap.size, k * 3 + 2, none⟩) hlt1).trans ht2
      have s2 := (hb.frozen (p := ⟨W.heap.size, k * 3 + 2, none⟩) hlt1).trans (HF.out.soft (k * 3 + 2))
      clear h how hb ht0 ht1 ht2 e0 e1 e2
      go_wp2
      go_roundw
      case rel => exact ⟨k + 1, by omega, by go_num, _, by simpa [putCells, size_RegionS, Nat.add_assoc] using HP.out⟩
      case measure => simp [intOf]; omega
    · obtain rfl : k = L.length := by omega
      have HR := Lib.hid (HF.out.news (by unfold maxLen; omega))
      clear hF hmk
      go_wp2
      go_ret
      exact HR.out


set_option maxRecDepth 100000 in
set_option maxHeartbeats 3200000 in
theorem to_Disk {L0 : List (D_Region)} {x1 : Int} {a0 : Option Addr} {c0 : Nat} {W : World} (hsz : R_Disk.sz (L0, x1) ≤ 1048576) (h_L0 : RdSl R_Region W W.heap.size L0 a0 c0) : Calls Tryz.prog 7 #[.agg #[.slice a0 L0.length c0, .int .i64 x1]] W (NewV R_Disk (L0, x1) W) := by
  have H_L0 := Lib.hid h_L0
  have HSZ := Lib.hid hsz
  clear hsz h_L0
  have hP := ((Blk.new W 24 #[.slice a0 L0.length c0, .int .i64 x1]).alloc (.cells #[.slice none 0 0, .int .i64 0] 31)).alloc (.cells #[.slice none 0 0, .int .i64 0] 31)
  have hR := (Blk.new (W.alloc (.cells #[.slice a0 L0.length c0, .int .i64 x1] 24)) 31 #[.slice none 0 0, .int .i64 0]).alloc (.cells #[.slice none 0 0, .int .i64 0] 31)
  have hO := Blk.new ((W.alloc (.cells #[.slice a0 L0.length c0, .int .i64 x1] 24)).alloc (.cells #[.slice none 0 0, .int .i64 0] 31)) 31 #[.slice none 0 0, .int .i64 0]
  simp only [World.size_alloc] at hP hR hO
  have HB0 := Lib.hid (show Below W.heap.size W (((W.alloc (.cells #[.slice a0 L0.length c0, .int .i64 x1] 24)).alloc (.cells #[.slice none 0 0, .int .i64 0] 31)).alloc (.cells #[.slice none 0 0, .int .i64 0] 31)) from (((Below.refl _ _).alloc (Nat.le_refl _) _).alloc (by simp) _).alloc (by simp; omega) _)
  have hz0 : W.heap.size + 3 ≤ (((W.alloc (.cells #[.slice a0 L0.length c0, .int .i64 x1] 24)).alloc (.cells #[.slice none 0 0, .int .i64 0] 31)).alloc (.cells #[.slice none 0 0, .int .i64 0] 31)).heap.size := by simp
  have HP0 := Lib.hid hP
  have HR0 := Lib.hid hR
  have HO0 := Lib.hid hO
  clear hP hR hO
  go_enter Tryz.func7, Tryz.ntmps7
  go_wp2_with fail
  refine (to_RegionS (by have h0 := HSZ.out; simp only [R_Disk, Pr, Sl, I, Bo, atom] at h0 ⊢; omega) ((H_L0.out.below R_Region_ok HB0.out).more R_Region_ok (by have h0 := hz0; first | omega | (simp; omega)))).mono ?_
  intro e w1 h
  obtain ⟨b_L0, d_L0, rfl, how_L0, hb⟩ := newS_elim h
  have hP : Blk w1 (W.heap.size) 24 #[.slice a0 L0.length c0, .int .i64 x1] := Blk.call HP0.out hb
  have hR : Blk w1 (W.heap.size + 1) 31 #[.slice none 0 0, .int .i64 0] := Blk.call HR0.out hb
  have hO : Blk w1 (W.heap.size + 1 + 1) 31 #[.slice none 0 0, .int .i64 0] := Blk.call HO0.out hb
  have hz1 : W.heap.size + 3 ≤ w1.heap.size := Nat.le_trans hz0 (size_call hb (S := fun x => x < W.heap.size + 3) (Off.refl (fun x => x < W.heap.size + 3) _))
  have HB1 := Lib.hid (Below.trans (B := W.heap.size) (a := W) HB0.out (hb.mono (by have h0 := hz0; first | omega | (simp; omega))))
  have HO_L0 := Lib.hid how_L0
  have HL_L0 := Lib.hid (fun k hk => rg_call hb (m := W.heap.size + 3) (by have h0 := hz0; first | omega | (simp; omega)) k hk)
  have HU_L0 := Lib.hid (rg_call hb (m := 0) (Nat.zero_le _))
  have HP1 := Lib.hid hP
  have HR1 := Lib.hid hR
  have HO1 := Lib.hid hO
  clear h hb hP hR hO how_L0
  have p1_0 := HP1.out.at_ 0 rfl
  have o1_0 := HO1.out.at_ 0 rfl
  have r1_0 := HR1.out.at_ 0 rfl
  have f1_0 := HO1.out.soft 0
  have g1_0 := HR1.out.soft 0
  have p1_1 := HP1.out.at_ 1 rfl
  have o1_1 := HO1.out.at_ 1 rfl
  have r1_1 := HR1.out.at_ 1 rfl
  have f1_1 := HO1.out.soft 1
  have g1_1 := HR1.out.soft 1
  go_wp2
  refine bodyPost_ret (v := .agg #[.slice b_L0 L0.length d_L0, .int .i64 x1]) (by simp [results, Tryz.results7, go_sem, *]) rfl ⟨[.slice b_L0 L0.length d_L0, .int .i64 x1], rfl, ?_, ((((HB1.out.setCell (p := ⟨W.heap.size + 1 + 1, 0, none⟩) (by show W.heap.size ≤ W.heap.size + 1 + 1; omega) (.slice b_L0 L0.length d_L0)).setCell (p := ⟨W.heap.size + 1 + 1, 1, none⟩) (by show W.heap.size ≤ W.heap.size + 1 + 1; omega) (.int .i64 x1)).setCell (p := ⟨W.heap.size + 1, 0, none⟩) (by show W.heap.size ≤ W.heap.size + 1; omega) (.slice b_L0 L0.length d_L0)).setCell (p := ⟨W.heap.size + 1, 1, none⟩) (by show W.heap.size ≤ W.heap.size + 1; omega) (.int .i64 x1))⟩
  have hoff := (((((Off.refl (fun x => x < W.heap.size + 3) w1).setCell (p := ⟨W.heap.size + 1 + 1, 0, none⟩) (by show W.heap.size + 1 + 1 < W.heap.size + 3; omega) (.slice b_L0 L0.length d_L0)).setCell (p := ⟨W.heap.size + 1 + 1, 1, none⟩) (by show W.heap.size + 1 + 1 < W.heap.size + 3; omega) (.int .i64 x1)).setCell (p := ⟨W.heap.size + 1, 0, none⟩) (by show W.heap.size + 1 < W.heap.size + 3; omega) (.slice b_L0 L0.length d_L0)).setCell (p := ⟨W.heap.size + 1, 1, none⟩) (by show W.heap.size + 1 < W.heap.size + 3; omega) (.int .i64 x1))
  have hsz := hoff.size
  exact mkow_Disk (fun k hk => ⟨by have := (HL_L0.out k hk).1; omega, by have := (HL_L0.out k hk).2; omega⟩) (HO_L0.out.keep R_Region_ok (fun k hk => hoff.block k (HL_L0.out k hk).2 (by have := (HL_L0.out k hk).1; omega)))


set_option maxRecDepth 100000 in
set_option maxHeartbeats 3200000 in
theorem eq_Region {x0 : ByteArray} {x1 : ByteArray} {x2 : ByteArray}   {W : World} : Calls Tryz.prog 53 #[.agg #[.string x0, .string x1, .string x2], .agg #[.string x0, .string x1, .string x2]] W (IsB true W) := by
  have HB0 := Lib.hid (show Below W.heap.size W ((W.alloc (.cells #[.string x0, .string x1, .string x2] 52)).alloc (.cells #[.string x0, .string x1, .string x2] 52)) from ((Below.refl _ _).alloc (Nat.le_refl _) _).alloc (by simp) _)
  go_enter Tryz.func53, Tryz.ntmps53
  go_wp2
  all_goals
    go_ret
    exact ⟨rfl, HB0.out⟩


theorem sizeq_RegionS : (R_Region).size = 3 := rfl
set_option maxRecDepth 100000 in
set_option maxHeartbeats 3200000 in
theorem eq_RegionS {L : List (D_Region)} {a a' : Option Addr} {cap cap' : Nat} {W : World} (h : RdSl R_Region W W.heap.size L a cap) (h' : RdSl R_Region W W.heap.size L a' cap') : Calls Tryz.prog 30 #[.slice a L.length cap, .slice a' L.length cap'] W (IsB true W) := by
  have hn : L.length ≤ 9223372036854775807 := by have h1 := h.1; have h2 := h.2.1; unfold maxLen at h2; omega
  have H := Lib.hid h
  have H' := Lib.hid h'
  clear h h'
  go_enter Tryz.func30, Tryz.ntmps30
  go_wp2
  go_loopw [5] (fun i wr => ∃ k : Nat, k ≤ L.length ∧ i = .int .i64 k ∧ Below W.heap.size W wr) (fun i _ => L.length - (intOf i).toNat)
  case atStart => exact ⟨0, Nat.zero_le _, rfl, Below.refl _ _⟩
  case round =>
    obtain ⟨k, hk, rfl, hB⟩ := hrel
    have HB := Lib.hid hB
    have hsz := hB.size
    by_cases hlt : k < L.length
    · obtain ⟨⟨x0, x1, x2⟩, hx⟩ := el_some hlt
      have HX := Lib.hid hx
      obtain ⟨g, o, us, rfl, hg, hu, hr⟩ := (H.out.below R_Region_ok hB).at_ hx
      obtain ⟨g', o', vs, rfl, hg', hu', hr'⟩ := (H'.out.below R_Region_ok hB).at_ hx
      obtain ⟨rfl, b_x0, b_x1, b_x2⟩ := rd_Region hr
      obtain ⟨rfl, b'_x0, b'_x1, b'_x2⟩ := rd_Region hr'
      have e0 : wr.cell? ⟨g, o + k * 3, none⟩ = some (.string x0) := by simpa [sizeq_RegionS, Nat.add_assoc] using hu 0 _ rfl
      have d0 : wr.cell? ⟨g', o' + k * 3, none⟩ = some (.string x0) := by simpa [sizeq_RegionS, Nat.add_assoc] using hu' 0 _ rfl
      have e1 : wr.cell? ⟨g, o + k * 3 + 1, none⟩ = some (.string x1) := by simpa [sizeq_RegionS, Nat.add_assoc] using hu 1 _ rfl
      have d1 : wr.cell? ⟨g', o' + k * 3 + 1, none⟩ = some (.string x1) := by simpa [sizeq_RegionS, Nat.add_assoc] using hu' 1 _ rfl
      have e2 : wr.cell? ⟨g, o + k * 3 + 2, none⟩ = some (.string x2) := by simpa [sizeq_RegionS, Nat.add_assoc] using hu 2 _ rfl
      have d2 : wr.cell? ⟨g', o' + k * 3 + 2, none⟩ = some (.string x2) := by simpa [sizeq_RegionS, Nat.add_assoc] using hu' 2 _ rfl
      have hi0 : (0 : Int) ≤ (k : Int) := Int.natCast_nonneg _
      have hi1 : (k : Int) < (L.length : Int) := by omega
      have hgl : g < wr.heap.size := Nat.lt_of_lt_of_le hg hsz
      have hgl' : g' < wr.heap.size := Nat.lt_of_lt_of_le hg' hsz
      clear hB hx hu hu'
      go_wp2_with fail
      refine wp_region_held_drew (S := (fun W => W.cell? ⟨g, o + k * 3, none⟩ = some (.string x0) ∧ W.cell? ⟨g, o + k * 3 + 1, none⟩ = some (.string x1) ∧ W.cell? ⟨g, o + k * 3 + 2, none⟩ = some (.string x2) ∧ W.cell? ⟨g', o' + k * 3, none⟩ = some (.string x0) ∧ W.cell? ⟨g', o' + k * 3 + 1, none⟩ = some (.string x1) ∧ W.cell? ⟨g', o' + k * 3 + 2, none⟩ = some (.string x2) ∧ wr.heap.size ≤ W.heap.size ∧ Below wr.heap.size wr W)) (by kernel_rfl) (⟨e0, e1, e2, d0, d1, d2, Nat.le_refl _, (Below.refl _ _).drew⟩) (fun hHeld => ?_)
      refine wpAnyH_take (i := 0) (v := ?hv1) rfl (by kernel_rfl) (by kernel_rfl) (by kernel_rfl) (fun _ _ _ h => h) (Or.inl ⟨by kernel_rfl, ?hy1⟩) hHeld ?hr1
      case hy1 => (intro w hSw; (try dsimp only at hSw); go_simp; try with_reducible rfl)
      refine wpAnyH_take (i := 1) (v := ?hv2) rfl (by kernel_rfl) (by kernel_rfl) (by kernel_rfl) (fun _ _ _ h => h) (Or.inl ⟨by kernel_rfl, ?hy2⟩) hHeld ?hr2
      case hy2 => (intro w hSw; (try dsimp only at hSw); go_simp; try with_reducible rfl)
      refine wpAnyH_take (i := 2) (v := ?hv3) rfl (by kernel_rfl) (by kernel_rfl) (by kernel_rfl) (fun _ _ _ h => h) (Or.inl ⟨by kernel_rfl, ?hy3⟩) hHeld ?hr3
      case hy3 => (intro w hSw; (try dsimp only at hSw); go_simp; try with_reducible rfl)
      refine wpAnyH_take (i := 3) (v := ?hv4) rfl (by kernel_rfl) (by kernel_rfl) (by kernel_rfl) (fun _ _ _ h => h) (Or.inl ⟨by kernel_rfl, ?hy4⟩) hHeld ?hr4
      case hy4 => (intro w hSw; (try dsimp only at hSw); go_simp; try with_reducible rfl)
      refine wpAnyH_take (i := 4) (v := ?hv5) rfl (by kernel_rfl) (by kernel_rfl) (by kernel_rfl) (fun _ _ _ h => h) (Or.inl ⟨by kernel_rfl, ?hy5⟩) hHeld ?hr5
      case hy5 => (intro w hSw; (try dsimp only at hSw); go_simp; try with_reducible rfl)
      refine wpAnyH_take (i := 5) (v := ?hv6) rfl (by kernel_rfl) (by kernel_rfl) (by kernel_rfl) (fun _ _ _ h => h) (Or.inl ⟨by kernel_rfl, ?hy6⟩) hHeld ?hr6
      case hy6 => (intro w hSw; (try dsimp only at hSw); go_simp; try with_reducible rfl)
      refine wpAnyH_take (i := 6) (v := ?hv7) rfl (by kernel_rfl) (by kernel_rfl) (by kernel_rfl) (fun _ _ _ h => h) (Or.inl ⟨by kernel_rfl, ?hy7⟩) hHeld ?hr7
      case hy7 => (intro w hSw; (try dsimp only at hSw); go_simp; try with_reducible rfl)
      refine wpAnyH_take (i := 7) (v := ?hv8) rfl (by kernel_rfl) (by kernel_rfl) (by kernel_rfl) (fun _ _ _ h => h) (Or.inl ⟨by kernel_rfl, ?hy8⟩) hHeld ?hr8
      case hy8 => (intro w hSw; (try dsimp only at hSw); go_simp; try with_reducible rfl)
      refine rd1 8 (fun K hK => ?_)
      go_simp
      refine (eq_Region).mono ?_
      intro e w1 h
      obtain ⟨rfl, hb⟩ := isB_elim h
      refine hK.out _ _ (⟨(hb.cell (p := ⟨g, o + k * 3, none⟩) (Nat.lt_of_lt_of_le hgl hHeld.2.2.2.2.2.2.1)).trans hHeld.1, (hb.cell (p := ⟨g, o + k * 3 + 1, none⟩) (Nat.lt_of_lt_of_le hgl hHeld.2.2.2.2.2.2.1)).trans hHeld.2.1, (hb.cell (p := ⟨g, o + k * 3 + 2, none⟩) (Nat.lt_of_lt_of_le hgl hHeld.2.2.2.2.2.2.1)).trans hHeld.2.2.1, (hb.cell (p := ⟨g', o' + k * 3, none⟩) (Nat.lt_of_lt_of_le hgl' hHeld.2.2.2.2.2.2.1)).trans hHeld.2.2.2.1, (hb.cell (p := ⟨g', o' + k * 3 + 1, none⟩) (Nat.lt_of_lt_of_le hgl' hHeld.2.2.2.2.2.2.1)).trans hHeld.2.2.2.2.1, (hb.cell (p := ⟨g', o' + k * 3 + 2, none⟩) (Nat.lt_of_lt_of_le hgl' hHeld.2.2.2.2.2.2.1)).trans hHeld.2.2.2.2.2.1, Nat.le_trans hHeld.2.2.2.2.2.2.1 hb.size, hHeld.2.2.2.2.2.2.2.trans (hb.mono hHeld.2.2.2.2.2.2.1)⟩) (fun hHeld => ?_)
      clear hK K h
      refine tk 9 hHeld ?_
      refine rd0 ?_
      have HB2 := Lib.hid (HB.out.trans (hHeld.2.2.2.2.2.2.2.mono hsz))
      clear hHeld
      go_wp2
      go_roundw
      case rel => exact ⟨k + 1, by omega, by go_num, HB2.out⟩
      case measure => simp [intOf]; omega
    · clear hB
      go_wp2
      go_ret
      exact ⟨rfl, HB.out⟩


set_option maxRecDepth 100000 in
set_option maxHeartbeats 3200000 in
theorem eq_Disk {L0 : List (D_Region)} {x1 : Int} {a0 : Option Addr} {c0 : Nat} {a0' : Option Addr} {c0' : Nat} {W : World} (h_L0 : RdSl R_Region W W.heap.size L0 a0 c0) (h'_L0 : RdSl R_Region W W.heap.size L0 a0' c0') : Calls Tryz.prog 11 #[.agg #[.slice a0 L0.length c0, .int .i64 x1], .agg #[.slice a0' L0.length c0', .int .i64 x1]] W (IsB true W) := by
  have H_L0 := Lib.hid h_L0
  have H'_L0 := Lib.hid h'_L0
  clear h_L0 h'_L0
  have HB0 := Lib.hid (show Below W.heap.size W ((W.alloc (.cells #[.slice a0 L0.length c0, .int .i64 x1] 31)).alloc (.cells #[.slice a0' L0.length c0', .int .i64 x1] 31)) from ((Below.refl _ _).alloc (Nat.le_refl _) _).alloc (by simp) _)
  have hP := (Blk.new W 31 #[.slice a0 L0.length c0, .int .i64 x1]).alloc (.cells #[.slice a0' L0.length c0', .int .i64 x1] 31)
  have hQ := Blk.new (W.alloc (.cells #[.slice a0 L0.length c0, .int .i64 x1] 31)) 31 #[.slice a0' L0.length c0', .int .i64 x1]
  simp only [World.size_alloc] at hP hQ
  have HP0 := Lib.hid hP
  have HQ0 := Lib.hid hQ
  have hz0 : W.heap.size ≤ ((W.alloc (.cells #[.slice a0 L0.length c0, .int .i64 x1] 31)).alloc (.cells #[.slice a0' L0.length c0', .int .i64 x1] 31)).heap.size := HB0.out.size
  clear hP hQ
  go_enter Tryz.func11, Tryz.ntmps11
  go_wp2_with fail
  refine (eq_RegionS ((H_L0.out.below R_Region_ok HB0.out).more R_Region_ok hz0) ((H'_L0.out.below R_Region_ok HB0.out).more R_Region_ok hz0)).mono ?_
  intro e w1 h
  obtain ⟨rfl, hb⟩ := isB_elim h
  have HP1 := Lib.hid (HP0.out.call hb)
  have HQ1 := Lib.hid (HQ0.out.call hb)
  have HB1 := Lib.hid (HB0.out.trans (hb.mono hz0))
  have hz1 : W.heap.size ≤ w1.heap.size := HB1.out.size
  clear h hb
  have p1_1 := HP1.out.at_ 1 rfl
  have q1_1 := HQ1.out.at_ 1 rfl
  go_wp2
  all_goals
    go_ret
    exact ⟨rfl, HB1.out⟩


set_option maxRecDepth 100000 in
set_option maxHeartbeats 3200000 in
theorem eq_DiskOut {L0 : List (D_Region)} {x1 : Int} {x2 : Int} {a0 : Option Addr} {c0 : Nat} {a0' : Option Addr} {c0' : Nat} {W : World} (h_L0 : RdSl R_Region W W.heap.size L0 a0 c0) (h'_L0 : RdSl R_Region W W.heap.size L0 a0' c0') : Calls Tryz.prog 10 #[.agg #[.slice a0 L0.length c0, .int .i64 x1, .int .i64 x2], .agg #[.slice a0' L0.length c0', .int .i64 x1, .int .i64 x2]] W (IsB true W) := by
  have H_L0 := Lib.hid h_L0
  have H'_L0 := Lib.hid h'_L0
  clear h_L0 h'_L0
  have HB0 := Lib.hid (show Below W.heap.size W ((W.alloc (.cells #[.slice a0 L0.length c0, .int .i64 x1, .int .i64 x2] 33)).alloc (.cells #[.slice a0' L0.length c0', .int .i64 x1, .int .i64 x2] 33)) from ((Below.refl _ _).alloc (Nat.le_refl _) _).alloc (by simp) _)
  have hP := (Blk.new W 33 #[.slice a0 L0.length c0, .int .i64 x1, .int .i64 x2]).alloc (.cells #[.slice a0' L0.length c0', .int .i64 x1, .int .i64 x2] 33)
  have hQ := Blk.new (W.alloc (.cells #[.slice a0 L0.length c0, .int .i64 x1, .int .i64 x2] 33)) 33 #[.slice a0' L0.length c0', .int .i64 x1, .int .i64 x2]
  simp only [World.size_alloc] at hP hQ
  have HP0 := Lib.hid hP
  have HQ0 := Lib.hid hQ
  have hz0 : W.heap.size ≤ ((W.alloc (.cells #[.slice a0 L0.length c0, .int .i64 x1, .int .i64 x2] 33)).alloc (.cells #[.slice a0' L0.length c0', .int .i64 x1, .int .i64 x2] 33)).heap.size := HB0.out.size
  clear hP hQ
  go_enter Tryz.func10, Tryz.ntmps10
  go_wp2_with fail
  refine (eq_Disk ((H_L0.out.below R_Region_ok HB0.out).more R_Region_ok hz0) ((H'_L0.out.below R_Region_ok HB0.out).more R_Region_ok hz0)).mono ?_
  intro e w1 h
  obtain ⟨rfl, hb⟩ := isB_elim h
  have HP1 := Lib.hid (HP0.out.call hb)
  have HQ1 := Lib.hid (HQ0.out.call hb)
  have HB1 := Lib.hid (HB0.out.trans (hb.mono hz0))
  have hz1 : W.heap.size ≤ w1.heap.size := HB1.out.size
  clear h hb
  have p1_2 := HP1.out.at_ 2 rfl
  have q1_2 := HQ1.out.at_ 2 rfl
  go_wp2
  all_goals
    go_ret
    exact ⟨rfl, HB1.out⟩


theorem szd_Region {x0 : ByteArray} {x1 : ByteArray} {x2 : ByteArray} : R_Region.sz (x0, x1, x2) = x0.size + x1.size + x2.size := by
  simp only [R_Region, Pr, I, Bo, St, atom] <;> omega
set_option maxRecDepth 100000 in
set_option maxHeartbeats 1600000 in
theorem sz_Region {x0 : ByteArray} {x1 : ByteArray} {x2 : ByteArray} {W : World} {l : Int} (h0 : 0 ≤ l) (h1 : l ≤ 1048576) (b_x0 : x0.size ≤ maxLen) (b_x1 : x1.size ≤ maxLen) (b_x2 : x2.size ≤ maxLen) : Calls Tryz.prog 33 #[.agg #[.string x0, .string x1, .string x2], .int .i64 l] W (SzC l (R_Region.sz (x0, x1, x2)) W) := by
  unfold maxLen at b_x0 b_x1 b_x2
  have HD := Lib.hid (szd_Region (x0 := x0) (x1 := x1) (x2 := x2))
  by_cases hf0 : (x0.size : Int) ≤ l
  rotate_left
  · have HR := Lib.hid (szR_no (l := l) (s := R_Region.sz (x0, x1, x2)) (by rw [HD.out]; omega))
    have hd : decide (l - (x0.size : Int) < 0) = true := decide_eq_true (by omega)
    go_enter Tryz.func33, Tryz.ntmps33
    go_wp2
    go_ret
    exact ⟨by rw [HR.out]; first | rfl | (simp; done) | (simp; omega), by first | exact Below.refl _ _ | exact (Below.refl _ _).alloc (Nat.le_refl _) _⟩
  have hd0 : decide (l - (x0.size : Int) < 0) = false := decide_eq_false (by omega)
  by_cases hf1 : (x1.size : Int) ≤ l - (x0.size : Int)
  rotate_left
  · have HR := Lib.hid (szR_no (l := l) (s := R_Region.sz (x0, x1, x2)) (by rw [HD.out]; omega))
    have hd : decide (l - (x0.size : Int) - (x1.size : Int) < 0) = true := decide_eq_true (by omega)
    go_enter Tryz.func33, Tryz.ntmps33
    go_wp2
    go_ret
    exact ⟨by rw [HR.out]; first | rfl | (simp; done) | (simp; omega), by first | exact Below.refl _ _ | exact (Below.refl _ _).alloc (Nat.le_refl _) _⟩
  have hd1 : decide (l - (x0.size : Int) - (x1.size : Int) < 0) = false := decide_eq_false (by omega)
  by_cases hf2 : (x2.size : Int) ≤ l - (x0.size : Int) - (x1.size : Int)
  rotate_left
  · have HR := Lib.hid (szR_no (l := l) (s := R_Region.sz (x0, x1, x2)) (by rw [HD.out]; omega))
    have hd : decide (l - (x0.size : Int) - (x1.size : Int) - (x2.size : Int) < 0) = true := decide_eq_true (by omega)
    go_enter Tryz.func33, Tryz.ntmps33
    go_wp2
    go_ret
    exact ⟨by rw [HR.out]; first | rfl | (simp; done) | (simp; omega), by first | exact Below.refl _ _ | exact (Below.refl _ _).alloc (Nat.le_refl _) _⟩
  have hd2 : decide (l - (x0.size : Int) - (x1.size : Int) - (x2.size : Int) < 0) = false := decide_eq_false (by omega)
  have HR := Lib.hid (szR_yes (l := l) (s := R_Region.sz (x0, x1, x2)) (by rw [HD.out]; omega))
  go_enter Tryz.func33, Tryz.ntmps33
  go_wp2
  go_ret
  exact ⟨by rw [HR.out, HD.out]; first | rfl | (simp; done) | (simp; omega), by first | exact Below.refl _ _ | exact (Below.refl _ _).alloc (Nat.le_refl _) _⟩


theorem sizz_RegionS : (R_Region).size = 3 := rfl
theorem szd_RegionS (L : List (D_Region)) : (Sl R_Region).sz L = L.length + sumL (R_Region).sz L := rfl
set_option maxRecDepth 100000 in
set_option maxHeartbeats 1600000 in
theorem sz_RegionS {L : List (D_Region)} {a : Option Addr} {cap : Nat} {W : World} {l : Int} (h0 : 0 ≤ l) (h1 : l ≤ 1048576) (h : RdSl R_Region W W.heap.size L a cap) : Calls Tryz.prog 15 #[.slice a L.length cap, .int .i64 l] W (SzC l ((Sl R_Region).sz L) W) := by
  have hn : L.length ≤ 9223372036854775807 := by have h1 := h.1; have h2 := h.2.1; unfold maxLen at h2; omega
  have H := Lib.hid h
  have HD := Lib.hid (szd_RegionS L)
  clear h
  by_cases hlen : (L.length : Int) ≤ l
  · go_enter Tryz.func15, Tryz.ntmps15
    go_wp2
    go_loopw [5, 1] (fun i q wr => ∃ k : Nat, k ≤ L.length ∧ i = .int .i64 k ∧ (L.length : Int) + (sumL (R_Region).sz (L.take k) : Nat) ≤ l ∧ q = .int .i64 (l - L.length - (sumL (R_Region).sz (L.take k) : Nat)) ∧ Below W.heap.size W wr) (fun i _ _ => L.length - (intOf i).toNat)
    case atStart => exact ⟨0, Nat.zero_le _, rfl, by simpa [sumL] using hlen, by simp [sumL], Below.refl _ _⟩
    case round =>
      obtain ⟨k, hk, rfl, hfit, rfl, hB⟩ := hrel
      have HB := Lib.hid hB
      have hsz := hB.size
      have hle := sumL_take_le (R_Region).sz L k
      by_cases hlt : k < L.length
      · obtain ⟨⟨x0, x1, x2⟩, hx⟩ := el_some hlt
        have HS := Lib.hid (sumL_take (R_Region).sz hx)
        have hle2 := sumL_take_le (R_Region).sz L (k + 1)
        obtain ⟨g, o, us, rfl, hg, hu, hr⟩ := (H.out.below R_Region_ok hB).at_ hx
        obtain ⟨rfl, b_x0, b_x1, b_x2⟩ := rd_Region hr
        have e0 : wr.cell? ⟨g, o + k * 3, none⟩ = some (.string x0) := by simpa [sizz_RegionS, Nat.add_assoc] using hu 0 _ rfl
        have e1 : wr.cell? ⟨g, o + k * 3 + 1, none⟩ = some (.string x1) := by simpa [sizz_RegionS, Nat.add_assoc] using hu 1 _ rfl
        have e2 : wr.cell? ⟨g, o + k * 3 + 2, none⟩ = some (.string x2) := by simpa [sizz_RegionS, Nat.add_assoc] using hu 2 _ rfl
        obtain ⟨q, hq⟩ : ∃ q, q = sumL (R_Region).sz (L.take k) := ⟨_, rfl⟩
        obtain ⟨p, hp⟩ : ∃ p, p = (R_Region).sz (x0, x1, x2) := ⟨_, rfl⟩
        rw [← hq] at hfit hle HS
        rw [← hp] at HS
        have HQ := Lib.hid hq
        have HP := Lib.hid hp
        have hi0 : (0 : Int) ≤ (k : Int) := Int.natCast_nonneg _
        have hi1 : (k : Int) < (L.length : Int) := by omega
        have hgl : g < wr.heap.size := Nat.lt_of_lt_of_le hg hsz
        have hle3 : q + p ≤ sumL (R_Region).sz L := by rw [← HS.out]; exact hle2
        rw [← hq]
        clear hB hx hu hq hp hle2
        go_wp2_with fail
        refine (sz_Region (by omega) (by omega) b_x0 b_x1 b_x2).mono ?_
        intro e w1 h
        obtain ⟨rfl, hb⟩ := szC_elim h
        rw [← HP.out]
        have HB2 := Lib.hid (HB.out.trans (hb.mono hsz))
        clear h hb
        by_cases hf : (p : Int) ≤ l - L.length - (q : Nat)
        · rw [szR_yes hf]
          have hpos : (0 : Int) ≤ l - L.length - (q : Nat) - (p : Nat) := by omega
          go_wp2
          go_roundw
          case rel => exact ⟨k + 1, by omega, by go_num, by rw [HS.out]; omega, by rw [HS.out]; congr 1; omega, HB2.out⟩
          case measure => simp [intOf]; omega
        · rw [szR_no hf]
          have HR := Lib.hid (szR_no (l := l) (s := (Sl R_Region).sz L) (by rw [HD.out]; omega))
          go_wp2
          go_ret
          exact ⟨by first | (rw [HR.out]; done) | (rw [HR.out]; rfl), HB2.out⟩
      · obtain rfl : k = L.length := by omega
        have HR := Lib.hid (szR_yes (l := l) (s := (Sl R_Region).sz L) (by rw [HD.out]; rw [List.take_length] at hfit; omega))
        have HT := Lib.hid (show L.take L.length = L from List.take_length)
        clear hB
        go_wp2
        go_ret
        exact ⟨by rw [HR.out, HD.out, ← HT.out]; first | rfl | (simp; done) | (simp; omega), HB.out⟩
  · have HR := Lib.hid (szR_no (l := l) (s := (Sl R_Region).sz L) (by rw [HD.out]; omega))
    go_enter Tryz.func15, Tryz.ntmps15
    go_wp2
    go_ret
    exact ⟨by first | (rw [HR.out]; done) | (rw [HR.out]; rfl), Below.refl _ _⟩


theorem szd_Disk {L0 : List (D_Region)} {x1 : Int} : R_Disk.sz (L0, x1) = (((Sl R_Region)).sz L0) := by
  simp only [R_Disk, Pr, I, Bo, atom] <;> omega
set_option maxRecDepth 100000 in
set_option maxHeartbeats 1600000 in
theorem sz_Disk {L0 : List (D_Region)} {x1 : Int} {a0 : Option Addr} {c0 : Nat} {W : World} {l : Int} (h0 : 0 ≤ l) (h1 : l ≤ 1048576) (h_L0 : RdSl R_Region W W.heap.size L0 a0 c0) : Calls Tryz.prog 4 #[.agg #[.slice a0 L0.length c0, .int .i64 x1], .int .i64 l] W (SzC l (R_Disk.sz (L0, x1)) W) := by
  have H_L0 := Lib.hid h_L0
  clear h_L0
  have HD := Lib.hid (szd_Disk (L0 := L0) (x1 := x1))
  have HB0 := Lib.hid (show Below W.heap.size W (W.alloc (.cells #[.slice a0 L0.length c0, .int .i64 x1] 24)) from (Below.refl _ _).alloc (Nat.le_refl _) _)
  have hP := Blk.new W 24 #[.slice a0 L0.length c0, .int .i64 x1]
  have HP0 := Lib.hid hP
  have hz0 : W.heap.size ≤ (W.alloc (.cells #[.slice a0 L0.length c0, .int .i64 x1] 24)).heap.size := HB0.out.size
  clear hP
  obtain ⟨s0, hs0⟩ : ∃ s, s = (((Sl R_Region)).sz L0) := ⟨_, rfl⟩
  have HS0 := Lib.hid hs0
  rw [← hs0] at HD
  clear hs0
  go_enter Tryz.func4, Tryz.ntmps4
  go_wp2_with fail
  refine (sz_RegionS (l := l) (by omega) (by omega) ((H_L0.out.below R_Region_ok HB0.out).more R_Region_ok hz0)).mono ?_
  intro e w1 h
  obtain ⟨rfl, hb⟩ := szC_elim h
  rw [← HS0.out]
  have HP1 := Lib.hid (HP0.out.call hb)
  have HB1 := Lib.hid (HB0.out.trans (hb.mono hz0))
  have hz1 : W.heap.size ≤ w1.heap.size := HB1.out.size
  clear h hb
  have p1_0 := HP1.out.at_ 0 rfl
  by_cases hf0 : (s0 : Int) ≤ l
  rotate_left
  · rw [szR_no hf0]
    have HR := Lib.hid (szR_no (l := l) (s := R_Disk.sz (L0, x1)) (by rw [HD.out]; omega))
    go_wp2
    go_ret
    exact ⟨by first | (rw [HR.out]; done) | (rw [HR.out]; rfl), HB1.out⟩
  rw [szR_yes hf0]
  have hpos0 : (0 : Int) ≤ l - (s0 : Nat) := by omega
  have HR := Lib.hid (szR_yes (l := l) (s := R_Disk.sz (L0, x1)) (by rw [HD.out]; omega))
  go_wp2
  go_ret
  exact ⟨by rw [HR.out, HD.out]; first | rfl | (simp; done) | (simp; omega), HB1.out⟩

end Go.Proofs.YtdedomfocljhaaaGreatDoor.RepC
