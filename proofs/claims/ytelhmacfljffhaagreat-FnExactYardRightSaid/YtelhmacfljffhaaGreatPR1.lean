/- Of this claim's texts the part 1: UsT Name Lab ResB Sp UsP LabJoin LabBelow LabEq UsQ SpPairs SpD JobN TaP TaR1 WiA JobI0. -/
import Derived.Test.YtelhmacfljffhaaGreatRows
import Derived.WalkKit
import Derived.ProofKit
import Derived.Below
import Derived.LoopTactic
import Derived.BigQuiet
import Derived.Deep.QuietTactic
import Derived.WalkSpells
import Derived.WalkLawsBesides
import Derived.Lib.Hide
import Derived.Deep.RegionWith
import Derived.RegionTactic
import Derived.IntWalk
import Derived.Deep.RegionHeld3
import Derived.Deep.DeepCutAuto
import Derived.Sort.Walk0
import Derived.StillTailTactics
import Derived.Laws.StructEq
import Derived.Laws.MakeOwn
import Derived.Laws.Entries
import Derived.Test.YtelhmacfljffhaaGreatPR0
section
namespace Go.Proofs.YtelhmacfljffhaaGreat.RepC
open Go.RowKit RowC ValC
set_option linter.unusedVariables false
set_option linter.unusedSimpArgs false
abbrev D_Use : Type := (D_Label) × (ByteArray) × (Int)
def R_Use : Rp D_Use := (Pr R_Label (Pr St I))
theorem R_Use_ok : Ok R_Use := (Pr_ok R_Label_ok (Pr_ok St_ok I_ok))
theorem rd_Use {W : World} {B : Nat} {x0 : Int} {x1 : Int} {x2 : ByteArray} {x3 : Int} {cs : List Value} (h : R_Use.rd W B ((x0, x1), x2, x3) cs) : cs = [.int .i64 x0, .int .i64 x1, .string x2, .int .i64 x3] ∧ x2.size ≤ maxLen := by
  obtain ⟨u1, v1, rfl, h1, g1⟩ := h
  obtain ⟨u2, v2, rfl, h2, g2⟩ := h1
  obtain rfl : u2 = [_] := h2
  obtain rfl : v2 = [_] := g2
  obtain ⟨u3, v3, rfl, h3, g3⟩ := g1
  obtain ⟨hq_x2, b_x2⟩ := h3
  obtain rfl : u3 = [_] := hq_x2
  obtain rfl : v3 = [_] := g3
  exact ⟨rfl, b_x2⟩
theorem mkow_Use {W : World} {S : Nat → Prop} {x0 : Int} {x1 : Int} {x2 : ByteArray} {x3 : Int}  (b_x2 : x2.size ≤ maxLen) : R_Use.ow W S ((x0, x1), x2, x3) [.int .i64 x0, .int .i64 x1, .string x2, .int .i64 x3] := ⟨[.int .i64 x0, .int .i64 x1], [.string x2, .int .i64 x3], (fun _ => False), (fun _ => False), rfl, (fun k h => h.elim), (fun k h => h.elim), (fun k h h' => h.elim), ⟨[.int .i64 x0], [.int .i64 x1], (fun _ => False), (fun _ => False), rfl, (fun k h => h.elim), (fun k h => h.elim), (fun k h h' => h.elim), rfl, rfl⟩, ⟨[.string x2], [.int .i64 x3], (fun _ => False), (fun _ => False), rfl, (fun k h => h.elim), (fun k h => h.elim), (fun k h h' => h.elim), ⟨rfl, b_x2⟩, rfl⟩⟩
theorem ow0_Use {W : World} {S : Nat → Prop} {x0 : Int} {x1 : Int} {x2 : ByteArray} {x3 : Int} {cs : List Value} (h : R_Use.ow W S ((x0, x1), x2, x3) cs) : cs = [.int .i64 x0, .int .i64 x1, .string x2, .int .i64 x3] ∧ x2.size ≤ maxLen := by
  obtain ⟨u1, v1, A1, B1, rfl, sa1, sb1, dd1, h1, g1⟩ := h
  obtain ⟨u2, v2, A2, B2, rfl, sa2, sb2, dd2, h2, g2⟩ := h1
  obtain rfl : u2 = [_] := h2
  obtain rfl : v2 = [_] := g2
  obtain ⟨u3, v3, A3, B3, rfl, sa3, sb3, dd3, h3, g3⟩ := g1
  obtain ⟨hq_x2, b_x2⟩ := h3
  obtain rfl : u3 = [_] := hq_x2
  obtain rfl : v3 = [_] := g3
  exact ⟨rfl, b_x2⟩
set_option maxRecDepth 100000 in
set_option maxHeartbeats 3200000 in
theorem to_Use {x0 : Int} {x1 : Int} {x2 : ByteArray} {x3 : Int}  {W : World} (hsz : R_Use.sz ((x0, x1), x2, x3) ≤ 1048576) (b_x2 : x2.size ≤ maxLen) : Calls Tryz.prog 85 #[.agg #[.int .i64 x0, .int .i64 x1, .string x2, .int .i64 x3]] W (NewV R_Use ((x0, x1), x2, x3) W) := by
  have HSZ := Lib.hid hsz
  clear hsz
  have hP := ((Blk.new W 113 #[.int .i64 x0, .int .i64 x1, .string x2, .int .i64 x3]).alloc (.cells #[.int .i64 0, .int .i64 0, .string ⟨#[]⟩, .int .i64 0] 76)).alloc (.cells #[.int .i64 0, .int .i64 0, .string ⟨#[]⟩, .int .i64 0] 76)
  have hR := (Blk.new (W.alloc (.cells #[.int .i64 x0, .int .i64 x1, .string x2, .int .i64 x3] 113)) 76 #[.int .i64 0, .int .i64 0, .string ⟨#[]⟩, .int .i64 0]).alloc (.cells #[.int .i64 0, .int .i64 0, .string ⟨#[]⟩, .int .i64 0] 76)
  have hO := Blk.new ((W.alloc (.cells #[.int .i64 x0, .int .i64 x1, .string x2, .int .i64 x3] 113)).alloc (.cells #[.int .i64 0, .int .i64 0, .string ⟨#[]⟩, .int .i64 0] 76)) 76 #[.int .i64 0, .int .i64 0, .string ⟨#[]⟩, .int .i64 0]
  simp only [World.size_alloc] at hP hR hO
  have HB0 := Lib.hid (show Below W.heap.size W (((W.alloc (.cells #[.int .i64 x0, .int .i64 x1, .string x2, .int .i64 x3] 113)).alloc (.cells #[.int .i64 0, .int .i64 0, .string ⟨#[]⟩, .int .i64 0] 76)).alloc (.cells #[.int .i64 0, .int .i64 0, .string ⟨#[]⟩, .int .i64 0] 76)) from (((Below.refl _ _).alloc (Nat.le_refl _) _).alloc (by simp) _).alloc (by simp; omega) _)
  have hz0 : W.heap.size + 3 ≤ (((W.alloc (.cells #[.int .i64 x0, .int .i64 x1, .string x2, .int .i64 x3] 113)).alloc (.cells #[.int .i64 0, .int .i64 0, .string ⟨#[]⟩, .int .i64 0] 76)).alloc (.cells #[.int .i64 0, .int .i64 0, .string ⟨#[]⟩, .int .i64 0] 76)).heap.size := by simp
  have HP0 := Lib.hid hP
  have HR0 := Lib.hid hR
  have HO0 := Lib.hid hO
  clear hP hR hO
  go_enter Tryz.func85, Tryz.ntmps85
  go_wp2_with fail
  refine (to_Label (by have h0 := HSZ.out; simp only [R_Use, R_Label, Pr, Sl, I, Bo, St, atom] at h0 ⊢; omega)).mono ?_
  intro e w1 h
  obtain ⟨vs, rfl, how, hb⟩ := newV_elim h
  obtain rfl := ow0_Label how
  have hP : Blk w1 (W.heap.size) 113 #[.int .i64 x0, .int .i64 x1, .string x2, .int .i64 x3] := Blk.call HP0.out hb
  have hR : Blk w1 (W.heap.size + 1) 76 #[.int .i64 0, .int .i64 0, .string ⟨#[]⟩, .int .i64 0] := Blk.call HR0.out hb
  have hO : Blk w1 (W.heap.size + 1 + 1) 76 #[.int .i64 0, .int .i64 0, .string ⟨#[]⟩, .int .i64 0] := Blk.call HO0.out hb
  have hz1 : W.heap.size + 3 ≤ w1.heap.size := Nat.le_trans hz0 (size_call hb (S := fun x => x < W.heap.size + 3) (Off.refl (fun x => x < W.heap.size + 3) _))
  have HB1 := Lib.hid (Below.trans (B := W.heap.size) (a := W) HB0.out (hb.mono (by have h0 := hz0; first | omega | (simp; omega))))
  have HP1 := Lib.hid hP
  have HR1 := Lib.hid hR
  have HO1 := Lib.hid hO
  clear h hb hP hR hO how
  have p1_0 := HP1.out.at_ 0 rfl
  have o1_0 := HO1.out.at_ 0 rfl
  have r1_0 := HR1.out.at_ 0 rfl
  have f1_0 := HO1.out.soft 0
  have g1_0 := HR1.out.soft 0
  have p1_1 := HP1.out.at_ 1 rfl
  have o1_1 := HO1.out.at_ 1 rfl
  have r1_1 := HR1.out.at_ 1 rfl
  have f1_1 := HO1.out.soft 1
  have g1_1 := HR1.out.soft 1
  have p1_2 := HP1.out.at_ 2 rfl
  have o1_2 := HO1.out.at_ 2 rfl
  have r1_2 := HR1.out.at_ 2 rfl
  have f1_2 := HO1.out.soft 2
  have g1_2 := HR1.out.soft 2
  have p1_3 := HP1.out.at_ 3 rfl
  have o1_3 := HO1.out.at_ 3 rfl
  have r1_3 := HR1.out.at_ 3 rfl
  have f1_3 := HO1.out.soft 3
  have g1_3 := HR1.out.soft 3
  go_wp2
  refine bodyPost_ret (v := .agg #[.int .i64 x0, .int .i64 x1, .string x2, .int .i64 x3]) (by simp [results, Tryz.results85, go_sem, *]) rfl ⟨[.int .i64 x0, .int .i64 x1, .string x2, .int .i64 x3], rfl, ?_, ((((((((HB1.out.setCell (p := ⟨W.heap.size + 1 + 1, 0, none⟩) (by show W.heap.size ≤ W.heap.size + 1 + 1; omega) (.int .i64 x0)).setCell (p := ⟨W.heap.size + 1 + 1, 1, none⟩) (by show W.heap.size ≤ W.heap.size + 1 + 1; omega) (.int .i64 x1)).setCell (p := ⟨W.heap.size + 1 + 1, 2, none⟩) (by show W.heap.size ≤ W.heap.size + 1 + 1; omega) (.string x2)).setCell (p := ⟨W.heap.size + 1 + 1, 3, none⟩) (by show W.heap.size ≤ W.heap.size + 1 + 1; omega) (.int .i64 x3)).setCell (p := ⟨W.heap.size + 1, 0, none⟩) (by show W.heap.size ≤ W.heap.size + 1; omega) (.int .i64 x0)).setCell (p := ⟨W.heap.size + 1, 1, none⟩) (by show W.heap.size ≤ W.heap.size + 1; omega) (.int .i64 x1)).setCell (p := ⟨W.heap.size + 1, 2, none⟩) (by show W.heap.size ≤ W.heap.size + 1; omega) (.string x2)).setCell (p := ⟨W.heap.size + 1, 3, none⟩) (by show W.heap.size ≤ W.heap.size + 1; omega) (.int .i64 x3))⟩
  have hoff := (((((((((Off.refl (fun x => x < W.heap.size + 3) w1).setCell (p := ⟨W.heap.size + 1 + 1, 0, none⟩) (by show W.heap.size + 1 + 1 < W.heap.size + 3; omega) (.int .i64 x0)).setCell (p := ⟨W.heap.size + 1 + 1, 1, none⟩) (by show W.heap.size + 1 + 1 < W.heap.size + 3; omega) (.int .i64 x1)).setCell (p := ⟨W.heap.size + 1 + 1, 2, none⟩) (by show W.heap.size + 1 + 1 < W.heap.size + 3; omega) (.string x2)).setCell (p := ⟨W.heap.size + 1 + 1, 3, none⟩) (by show W.heap.size + 1 + 1 < W.heap.size + 3; omega) (.int .i64 x3)).setCell (p := ⟨W.heap.size + 1, 0, none⟩) (by show W.heap.size + 1 < W.heap.size + 3; omega) (.int .i64 x0)).setCell (p := ⟨W.heap.size + 1, 1, none⟩) (by show W.heap.size + 1 < W.heap.size + 3; omega) (.int .i64 x1)).setCell (p := ⟨W.heap.size + 1, 2, none⟩) (by show W.heap.size + 1 < W.heap.size + 3; omega) (.string x2)).setCell (p := ⟨W.heap.size + 1, 3, none⟩) (by show W.heap.size + 1 < W.heap.size + 3; omega) (.int .i64 x3))
  have hsz := hoff.size
  exact mkow_Use b_x2
theorem size_UseS : (R_Use).size = 4 := rfl
def zs_UseS (n : Nat) : Array Value := madeCells #[.int .i64 0, .int .i64 0, .string ⟨#[]⟩, .int .i64 0] (n * 4)
theorem zs_UseS_size (n : Nat) : (zs_UseS n).size = n * (R_Use).size := by unfold zs_UseS; simp [madeCells, size_UseS]
theorem make_UseS (n : Nat) (hn : n ≤ 1048576) : ∀ W : World, (Instr.makeSlice 41 (.int .i64 (n : Int)) (.int .i64 (n : Int))).run Tryz.prog W = .ok (.slice (some ⟨W.heap.size, 0, none⟩) n n) (W.alloc (.cells (zs_UseS n) 76)) := by
  intro W
  obtain ⟨i, hi, hz, hs, hb⟩ : ∃ i, Tryz.prog.info? 76 = some i ∧ i.zero = some (.agg #[.int .i64 0, .int .i64 0, .string ⟨#[]⟩, .int .i64 0]) ∧ i.size = 4 ∧ i.bytes = 40 := by
    have h : (Tryz.prog.info? 76).map (fun i => (i.zero, i.size, i.bytes)) = some (some (.agg #[.int .i64 0, .int .i64 0, .string ⟨#[]⟩, .int .i64 0]), 4, 40) := by kernel_rfl
    cases hx : Tryz.prog.info? 76 with
    | none => rw [hx] at h; simp at h
    | some i => rw [hx] at h; simp at h; exact ⟨i, rfl, h.1, h.2.1, h.2.2⟩
  have hr := run_make (P := Tryz.prog) W 41 76 i _ Tryz.underlying41 hi hz .i64 .i64 n n (by omega) (by omega) (by rw [hb]; omega) (by omega)
  rw [hs] at hr
  simp only [Int.toNat_natCast] at hr
  exact hr
set_option maxRecDepth 100000 in
set_option maxHeartbeats 3200000 in
theorem to_UseS {L : List (D_Use)} {a : Option Addr} {cap : Nat} {W : World} (hsz : ((Sl R_Use)).sz L ≤ 1048576) (h : RdSl R_Use W W.heap.size L a cap) : Calls Tryz.prog 34 #[.slice a L.length cap] W (NewS R_Use L W) := by
  have hn : L.length ≤ 1048576 := Nat.le_trans (Nat.le_add_right _ _) hsz
  have hmk := make_UseS L.length hn
  have H := Lib.hid h
  have HSZ := Lib.hid hsz
  clear h hsz
  go_enter Tryz.func34, Tryz.ntmps34
  go_wp2
  go_loopw [4] (fun i wr => ∃ k : Nat, k ≤ L.length ∧ i = .int .i64 k ∧ ∃ Sf, Fil R_Use W wr L W.heap.size Sf k) (fun i _ => L.length - (intOf i).toNat)
  case atStart => exact ⟨0, Nat.zero_le _, rfl, _, Fil.new (by exact zs_UseS_size _)⟩
  case round =>
    obtain ⟨k, hk, rfl, Sf, hF⟩ := hrel
    have HF := Lib.hid hF
    by_cases hlt : k < L.length
    · obtain ⟨⟨⟨x0, x1⟩, x2, x3⟩, hx⟩ := el_some hlt
      have HX := Lib.hid hx
      obtain ⟨g, o, us, rfl, hg, hu, hr⟩ := (H.out.below R_Use_ok hF.below).at_ hx
      obtain ⟨rfl, b_x2⟩ := rd_Use hr
      have e0 : wr.cell? ⟨g, o + k * 4, none⟩ = some (.int .i64 x0) := by simpa [size_UseS, Nat.add_assoc] using hu 0 _ rfl
      have e1 : wr.cell? ⟨g, o + k * 4 + 1, none⟩ = some (.int .i64 x1) := by simpa [size_UseS, Nat.add_assoc] using hu 1 _ rfl
      have e2 : wr.cell? ⟨g, o + k * 4 + 2, none⟩ = some (.string x2) := by simpa [size_UseS, Nat.add_assoc] using hu 2 _ rfl
      have e3 : wr.cell? ⟨g, o + k * 4 + 3, none⟩ = some (.int .i64 x3) := by simpa [size_UseS, Nat.add_assoc] using hu 3 _ rfl
      have hi0 : (0 : Int) ≤ (k : Int) := Int.natCast_nonneg _
      have hi1 : (k : Int) < (L.length : Int) := by omega
      have HE := Lib.hid (sz_at (f := (R_Use).sz) HX.out HSZ.out)
      clear hF hx hu hmk
      go_wp2_with fail
      refine (to_Use (by exact HE.out) b_x2).mono ?_
      intro e w1 h
      obtain ⟨vs, rfl, how, hb⟩ := newV_elim h
      have HOW := Lib.hid how
      obtain ⟨rfl, _⟩ := ow0_Use how
      have HP := Lib.hid (HF.out.put R_Use_ok HX.out hb HOW.out)
      have hlt1 := HF.out.lt
      obtain ⟨t0, ht0⟩ := HF.out.there (k * 4) (by rw [size_UseS]; omega)
      have q0 := (hb.cell (p := ⟨W.heap.size, k * 4, none⟩) hlt1).trans ht0
      have s0 := (hb.frozen (p := ⟨W.heap.size, k * 4, none⟩) hlt1).trans (HF.out.soft (k * 4))
      obtain ⟨t1, ht1⟩ := HF.out.there (k * 4 + 1) (by rw [size_UseS]; omega)
      have q1 := (hb.cell (p := ⟨W.heap.size, k * 4 + 1, none⟩) hlt1).trans ht1
      have s1 := (hb.frozen (p := ⟨W.heap.size, k * 4 + 1, none⟩) hlt1).trans (HF.out.soft (k * 4 + 1))
      obtain ⟨t2, ht2⟩ := HF.out.there (k * 4 + 2) (by rw [size_UseS]; omega)
      have q2 := (hb.cell (p := ⟨W.heap.size, k * 4 + 2, none⟩) hlt1).trans ht2
      have s2 := (hb.frozen (p := ⟨W.heap.size, k * 4 + 2, none⟩) hlt1).trans (HF.out.soft (k * 4 + 2))
      obtain ⟨t3, ht3⟩ := HF.out.there (k * 4 + 3) (by rw [size_UseS]; omega)
      have q3 := (hb.cell (p := ⟨W.heap.size, k * 4 + 3, none⟩) hlt1).trans ht3
      have s3 := (hb.frozen (p := ⟨W.heap.size, k * 4 + 3, none⟩) hlt1).trans (HF.out.soft (k * 4 + 3))
      clear h how hb ht0 ht1 ht2 ht3 e0 e1 e2 e3
      go_wp2
      go_roundw
      case rel => exact ⟨k + 1, by omega, by go_num, _, by simpa [putCells, size_UseS, Nat.add_assoc] using HP.out⟩
      case measure => simp [intOf]; omega
    · obtain rfl : k = L.length := by omega
      have HR := Lib.hid (HF.out.news (by unfold maxLen; omega))
      clear hF hmk
      go_wp2
      go_ret
      exact HR.out
set_option maxRecDepth 100000 in
set_option maxHeartbeats 3200000 in
theorem eq_Use {x0 : Int} {x1 : Int} {x2 : ByteArray} {x3 : Int}   {W : World} : Calls Tryz.prog 109 #[.agg #[.int .i64 x0, .int .i64 x1, .string x2, .int .i64 x3], .agg #[.int .i64 x0, .int .i64 x1, .string x2, .int .i64 x3]] W (IsB true W) := by
  have HB0 := Lib.hid (show Below W.heap.size W ((W.alloc (.cells #[.int .i64 x0, .int .i64 x1, .string x2, .int .i64 x3] 76)).alloc (.cells #[.int .i64 x0, .int .i64 x1, .string x2, .int .i64 x3] 76)) from ((Below.refl _ _).alloc (Nat.le_refl _) _).alloc (by simp) _)
  have hP := (Blk.new W 76 #[.int .i64 x0, .int .i64 x1, .string x2, .int .i64 x3]).alloc (.cells #[.int .i64 x0, .int .i64 x1, .string x2, .int .i64 x3] 76)
  have hQ := Blk.new (W.alloc (.cells #[.int .i64 x0, .int .i64 x1, .string x2, .int .i64 x3] 76)) 76 #[.int .i64 x0, .int .i64 x1, .string x2, .int .i64 x3]
  simp only [World.size_alloc] at hP hQ
  have HP0 := Lib.hid hP
  have HQ0 := Lib.hid hQ
  have hz0 : W.heap.size ≤ ((W.alloc (.cells #[.int .i64 x0, .int .i64 x1, .string x2, .int .i64 x3] 76)).alloc (.cells #[.int .i64 x0, .int .i64 x1, .string x2, .int .i64 x3] 76)).heap.size := HB0.out.size
  clear hP hQ
  go_enter Tryz.func109, Tryz.ntmps109
  go_wp2_with fail
  refine (eq_Label).mono ?_
  intro e w1 h
  obtain ⟨rfl, hb⟩ := isB_elim h
  have HP1 := Lib.hid (HP0.out.call hb)
  have HQ1 := Lib.hid (HQ0.out.call hb)
  have HB1 := Lib.hid (HB0.out.trans (hb.mono hz0))
  have hz1 : W.heap.size ≤ w1.heap.size := HB1.out.size
  clear h hb
  have p1_2 := HP1.out.at_ 2 rfl
  have q1_2 := HQ1.out.at_ 2 rfl
  have p1_3 := HP1.out.at_ 3 rfl
  have q1_3 := HQ1.out.at_ 3 rfl
  go_wp2
  all_goals
    go_ret
    exact ⟨rfl, HB1.out⟩
theorem sizeq_UseS : (R_Use).size = 4 := rfl
set_option maxRecDepth 100000 in
set_option maxHeartbeats 3200000 in
theorem eq_UseS {L : List (D_Use)} {a a' : Option Addr} {cap cap' : Nat} {W : World} (h : RdSl R_Use W W.heap.size L a cap) (h' : RdSl R_Use W W.heap.size L a' cap') : Calls Tryz.prog 44 #[.slice a L.length cap, .slice a' L.length cap'] W (IsB true W) := by
  have hn : L.length ≤ 9223372036854775807 := by have h1 := h.1; have h2 := h.2.1; unfold maxLen at h2; omega
  have H := Lib.hid h
  have H' := Lib.hid h'
  clear h h'
  go_enter Tryz.func44, Tryz.ntmps44
  go_wp2
  go_loopw [5] (fun i wr => ∃ k : Nat, k ≤ L.length ∧ i = .int .i64 k ∧ Below W.heap.size W wr) (fun i _ => L.length - (intOf i).toNat)
  case atStart => exact ⟨0, Nat.zero_le _, rfl, Below.refl _ _⟩
  case round =>
    obtain ⟨k, hk, rfl, hB⟩ := hrel
    have HB := Lib.hid hB
    have hsz := hB.size
    by_cases hlt : k < L.length
    · obtain ⟨⟨⟨x0, x1⟩, x2, x3⟩, hx⟩ := el_some hlt
      have HX := Lib.hid hx
      obtain ⟨g, o, us, rfl, hg, hu, hr⟩ := (H.out.below R_Use_ok hB).at_ hx
      obtain ⟨g', o', vs, rfl, hg', hu', hr'⟩ := (H'.out.below R_Use_ok hB).at_ hx
      obtain ⟨rfl, b_x2⟩ := rd_Use hr
      obtain ⟨rfl, b'_x2⟩ := rd_Use hr'
      have e0 : wr.cell? ⟨g, o + k * 4, none⟩ = some (.int .i64 x0) := by simpa [sizeq_UseS, Nat.add_assoc] using hu 0 _ rfl
      have d0 : wr.cell? ⟨g', o' + k * 4, none⟩ = some (.int .i64 x0) := by simpa [sizeq_UseS, Nat.add_assoc] using hu' 0 _ rfl
      have e1 : wr.cell? ⟨g, o + k * 4 + 1, none⟩ = some (.int .i64 x1) := by simpa [sizeq_UseS, Nat.add_assoc] using hu 1 _ rfl
      have d1 : wr.cell? ⟨g', o' + k * 4 + 1, none⟩ = some (.int .i64 x1) := by simpa [sizeq_UseS, Nat.add_assoc] using hu' 1 _ rfl
      have e2 : wr.cell? ⟨g, o + k * 4 + 2, none⟩ = some (.string x2) := by simpa [sizeq_UseS, Nat.add_assoc] using hu 2 _ rfl
      have d2 : wr.cell? ⟨g', o' + k * 4 + 2, none⟩ = some (.string x2) := by simpa [sizeq_UseS, Nat.add_assoc] using hu' 2 _ rfl
      have e3 : wr.cell? ⟨g, o + k * 4 + 3, none⟩ = some (.int .i64 x3) := by simpa [sizeq_UseS, Nat.add_assoc] using hu 3 _ rfl
      have d3 : wr.cell? ⟨g', o' + k * 4 + 3, none⟩ = some (.int .i64 x3) := by simpa [sizeq_UseS, Nat.add_assoc] using hu' 3 _ rfl
      have hi0 : (0 : Int) ≤ (k : Int) := Int.natCast_nonneg _
      have hi1 : (k : Int) < (L.length : Int) := by omega
      have hgl : g < wr.heap.size := Nat.lt_of_lt_of_le hg hsz
      have hgl' : g' < wr.heap.size := Nat.lt_of_lt_of_le hg' hsz
      clear hB hx hu hu'
      go_wp2_with fail
      refine wp_region_held_drew (S := (fun W => W.cell? ⟨g, o + k * 4, none⟩ = some (.int .i64 x0) ∧ W.cell? ⟨g, o + k * 4 + 1, none⟩ = some (.int .i64 x1) ∧ W.cell? ⟨g, o + k * 4 + 2, none⟩ = some (.string x2) ∧ W.cell? ⟨g, o + k * 4 + 3, none⟩ = some (.int .i64 x3) ∧ W.cell? ⟨g', o' + k * 4, none⟩ = some (.int .i64 x0) ∧ W.cell? ⟨g', o' + k * 4 + 1, none⟩ = some (.int .i64 x1) ∧ W.cell? ⟨g', o' + k * 4 + 2, none⟩ = some (.string x2) ∧ W.cell? ⟨g', o' + k * 4 + 3, none⟩ = some (.int .i64 x3) ∧ wr.heap.size ≤ W.heap.size ∧ Below wr.heap.size wr W)) (by kernel_rfl) (⟨e0, e1, e2, e3, d0, d1, d2, d3, Nat.le_refl _, (Below.refl _ _).drew⟩) (fun hHeld => ?_)
      refine wpAnyH_take (i := 0) (v := ?hv1) rfl (by kernel_rfl) (by kernel_rfl) (by kernel_rfl) (fun _ _ _ h => h) (Or.inl ⟨by kernel_rfl, ?hy1⟩) hHeld ?hr1
      case hy1 => (intro w hSw; (try dsimp only at hSw); go_simp; try with_reducible rfl)
      refine wpAnyH_take (i := 1) (v := ?hv2) rfl (by kernel_rfl) (by kernel_rfl) (by kernel_rfl) (fun _ _ _ h => h) (Or.inl ⟨by kernel_rfl, ?hy2⟩) hHeld ?hr2
      case hy2 => (intro w hSw; (try dsimp only at hSw); go_simp; try with_reducible rfl)
      refine wpAnyH_take (i := 2) (v := ?hv3) rfl (by kernel_rfl) (by kernel_rfl) (by kernel_rfl) (fun _ _ _ h => h) (Or.inl ⟨by kernel_rfl, ?hy3⟩) hHeld ?hr3
      case hy3 => (intro w hSw; (try dsimp only at hSw); go_simp; try with_reducible rfl)
      refine wpAnyH_take (i := 3) (v := ?hv4) rfl (by kernel_rfl) (by kernel_rfl) (by kernel_rfl) (fun _ _ _ h => h) (Or.inl ⟨by kernel_rfl, ?hy4⟩) hHeld ?hr4
      case hy4 => (intro w hSw; (try dsimp only at hSw); go_simp; try with_reducible rfl)
      refine wpAnyH_take (i := 4) (v := ?hv5) rfl (by kernel_rfl) (by kernel_rfl) (by kernel_rfl) (fun _ _ _ h => h) (Or.inl ⟨by kernel_rfl, ?hy5⟩) hHeld ?hr5
      case hy5 => (intro w hSw; (try dsimp only at hSw); go_simp; try with_reducible rfl)
      refine wpAnyH_take (i := 5) (v := ?hv6) rfl (by kernel_rfl) (by kernel_rfl) (by kernel_rfl) (fun _ _ _ h => h) (Or.inl ⟨by kernel_rfl, ?hy6⟩) hHeld ?hr6
      case hy6 => (intro w hSw; (try dsimp only at hSw); go_simp; try with_reducible rfl)
      refine wpAnyH_take (i := 6) (v := ?hv7) rfl (by kernel_rfl) (by kernel_rfl) (by kernel_rfl) (fun _ _ _ h => h) (Or.inl ⟨by kernel_rfl, ?hy7⟩) hHeld ?hr7
      case hy7 => (intro w hSw; (try dsimp only at hSw); go_simp; try with_reducible rfl)
      refine wpAnyH_take (i := 7) (v := ?hv8) rfl (by kernel_rfl) (by kernel_rfl) (by kernel_rfl) (fun _ _ _ h => h) (Or.inl ⟨by kernel_rfl, ?hy8⟩) hHeld ?hr8
      case hy8 => (intro w hSw; (try dsimp only at hSw); go_simp; try with_reducible rfl)
      refine rd1 8 (fun K hK => ?_)
      go_simp
      refine (eq_Use).mono ?_
      intro e w1 h
      obtain ⟨rfl, hb⟩ := isB_elim h
      refine hK.out _ _ (⟨(hb.cell (p := ⟨g, o + k * 4, none⟩) (Nat.lt_of_lt_of_le hgl hHeld.2.2.2.2.2.2.2.2.1)).trans hHeld.1, (hb.cell (p := ⟨g, o + k * 4 + 1, none⟩) (Nat.lt_of_lt_of_le hgl hHeld.2.2.2.2.2.2.2.2.1)).trans hHeld.2.1, (hb.cell (p := ⟨g, o + k * 4 + 2, none⟩) (Nat.lt_of_lt_of_le hgl hHeld.2.2.2.2.2.2.2.2.1)).trans hHeld.2.2.1, (hb.cell (p := ⟨g, o + k * 4 + 3, none⟩) (Nat.lt_of_lt_of_le hgl hHeld.2.2.2.2.2.2.2.2.1)).trans hHeld.2.2.2.1, (hb.cell (p := ⟨g', o' + k * 4, none⟩) (Nat.lt_of_lt_of_le hgl' hHeld.2.2.2.2.2.2.2.2.1)).trans hHeld.2.2.2.2.1, (hb.cell (p := ⟨g', o' + k * 4 + 1, none⟩) (Nat.lt_of_lt_of_le hgl' hHeld.2.2.2.2.2.2.2.2.1)).trans hHeld.2.2.2.2.2.1, (hb.cell (p := ⟨g', o' + k * 4 + 2, none⟩) (Nat.lt_of_lt_of_le hgl' hHeld.2.2.2.2.2.2.2.2.1)).trans hHeld.2.2.2.2.2.2.1, (hb.cell (p := ⟨g', o' + k * 4 + 3, none⟩) (Nat.lt_of_lt_of_le hgl' hHeld.2.2.2.2.2.2.2.2.1)).trans hHeld.2.2.2.2.2.2.2.1, Nat.le_trans hHeld.2.2.2.2.2.2.2.2.1 hb.size, hHeld.2.2.2.2.2.2.2.2.2.trans (hb.mono hHeld.2.2.2.2.2.2.2.2.1)⟩) (fun hHeld => ?_)
      clear hK K h
      refine tk 9 hHeld ?_
      refine rd0 ?_
      have HB2 := Lib.hid (HB.out.trans (hHeld.2.2.2.2.2.2.2.2.2.mono hsz))
      clear hHeld
      go_wp2
      go_roundw
      case rel => exact ⟨k + 1, by omega, by go_num, HB2.out⟩
      case measure => simp [intOf]; omega
    · clear hB
      go_wp2
      go_ret
      exact ⟨rfl, HB.out⟩
theorem szd_Use {x0 : Int} {x1 : Int} {x2 : ByteArray} {x3 : Int} : R_Use.sz ((x0, x1), x2, x3) = x2.size := by
  simp only [R_Use, Pr, I, Bo, St, atom, R_Label]; omega
set_option maxRecDepth 100000 in
set_option maxHeartbeats 1600000 in
theorem sz_Use {x0 : Int} {x1 : Int} {x2 : ByteArray} {x3 : Int} {W : World} {l : Int} (h0 : 0 ≤ l) (h1 : l ≤ 1048576) (b_x2 : x2.size ≤ maxLen) : Calls Tryz.prog 66 #[.agg #[.int .i64 x0, .int .i64 x1, .string x2, .int .i64 x3], .int .i64 l] W (SzC l (R_Use.sz ((x0, x1), x2, x3)) W) := by
  unfold maxLen at b_x2
  have HD := Lib.hid (szd_Use (x0 := x0) (x1 := x1) (x2 := x2) (x3 := x3))
  by_cases hf : (x2.size : Int) ≤ l
  · have HR := Lib.hid (szR_yes (l := l) (s := R_Use.sz ((x0, x1), x2, x3)) (by rw [HD.out]; exact hf))
    have hd : decide (l - (x2.size : Int) < 0) = false := decide_eq_false (by omega)
    go_enter Tryz.func66, Tryz.ntmps66
    go_wp2
    go_ret
    exact ⟨by rw [HR.out, HD.out]; rfl, by first | exact Below.refl _ _ | exact (Below.refl _ _).alloc (Nat.le_refl _) _⟩
  · have HR := Lib.hid (szR_no (l := l) (s := R_Use.sz ((x0, x1), x2, x3)) (by rw [HD.out]; exact hf))
    have hd : decide (l - (x2.size : Int) < 0) = true := decide_eq_true (by omega)
    go_enter Tryz.func66, Tryz.ntmps66
    go_wp2
    go_ret
    exact ⟨by rw [HR.out]; rfl, by first | exact Below.refl _ _ | exact (Below.refl _ _).alloc (Nat.le_refl _) _⟩
theorem sizz_UseS : (R_Use).size = 4 := rfl
theorem szd_UseS (L : List (D_Use)) : (Sl R_Use).sz L = L.length + sumL (R_Use).sz L := rfl
set_option maxRecDepth 100000 in
set_option maxHeartbeats 1600000 in
theorem sz_UseS {L : List (D_Use)} {a : Option Addr} {cap : Nat} {W : World} {l : Int} (h0 : 0 ≤ l) (h1 : l ≤ 1048576) (h : RdSl R_Use W W.heap.size L a cap) : Calls Tryz.prog 21 #[.slice a L.length cap, .int .i64 l] W (SzC l ((Sl R_Use).sz L) W) := by
  have hn : L.length ≤ 9223372036854775807 := by have h1 := h.1; have h2 := h.2.1; unfold maxLen at h2; omega
  have H := Lib.hid h
  have HD := Lib.hid (szd_UseS L)
  clear h
  by_cases hlen : (L.length : Int) ≤ l
  · go_enter Tryz.func21, Tryz.ntmps21
    go_wp2
    go_loopw [5, 1] (fun i q wr => ∃ k : Nat, k ≤ L.length ∧ i = .int .i64 k ∧ (L.length : Int) + (sumL (R_Use).sz (L.take k) : Nat) ≤ l ∧ q = .int .i64 (l - L.length - (sumL (R_Use).sz (L.take k) : Nat)) ∧ Below W.heap.size W wr) (fun i _ _ => L.length - (intOf i).toNat)
    case atStart => exact ⟨0, Nat.zero_le _, rfl, by simpa [sumL] using hlen, by simp [sumL], Below.refl _ _⟩
    case round =>
      obtain ⟨k, hk, rfl, hfit, rfl, hB⟩ := hrel
      have HB := Lib.hid hB
      have hsz := hB.size
      have hle := sumL_take_le (R_Use).sz L k
      by_cases hlt : k < L.length
      · obtain ⟨⟨⟨x0, x1⟩, x2, x3⟩, hx⟩ := el_some hlt
        have HS := Lib.hid (sumL_take (R_Use).sz hx)
        have hle2 := sumL_take_le (R_Use).sz L (k + 1)
        obtain ⟨g, o, us, rfl, hg, hu, hr⟩ := (H.out.below R_Use_ok hB).at_ hx
        obtain ⟨rfl, b_x2⟩ := rd_Use hr
        have e0 : wr.cell? ⟨g, o + k * 4, none⟩ = some (.int .i64 x0) := by simpa [sizz_UseS, Nat.add_assoc] using hu 0 _ rfl
        have e1 : wr.cell? ⟨g, o + k * 4 + 1, none⟩ = some (.int .i64 x1) := by simpa [sizz_UseS, Nat.add_assoc] using hu 1 _ rfl
        have e2 : wr.cell? ⟨g, o + k * 4 + 2, none⟩ = some (.string x2) := by simpa [sizz_UseS, Nat.add_assoc] using hu 2 _ rfl
        have e3 : wr.cell? ⟨g, o + k * 4 + 3, none⟩ = some (.int .i64 x3) := by simpa [sizz_UseS, Nat.add_assoc] using hu 3 _ rfl
        obtain ⟨q, hq⟩ : ∃ q, q = sumL (R_Use).sz (L.take k) := ⟨_, rfl⟩
        obtain ⟨p, hp⟩ : ∃ p, p = (R_Use).sz ((x0, x1), x2, x3) := ⟨_, rfl⟩
        rw [← hq] at hfit hle HS
        rw [← hp] at HS
        have HQ := Lib.hid hq
        have HP := Lib.hid hp
        have hi0 : (0 : Int) ≤ (k : Int) := Int.natCast_nonneg _
        have hi1 : (k : Int) < (L.length : Int) := by omega
        have hgl : g < wr.heap.size := Nat.lt_of_lt_of_le hg hsz
        have hle3 : q + p ≤ sumL (R_Use).sz L := by rw [← HS.out]; exact hle2
        rw [← hq]
        clear hB hx hu hq hp hle2
        go_wp2_with fail
        refine (sz_Use (by omega) (by omega) b_x2).mono ?_
        intro e w1 h
        obtain ⟨rfl, hb⟩ := szC_elim h
        rw [← HP.out]
        have HB2 := Lib.hid (HB.out.trans (hb.mono hsz))
        clear h hb
        by_cases hf : (p : Int) ≤ l - L.length - (q : Nat)
        · rw [szR_yes hf]
          have hpos : (0 : Int) ≤ l - L.length - (q : Nat) - (p : Nat) := by omega
          go_wp2
          go_roundw
          case rel => exact ⟨k + 1, by omega, by go_num, by rw [HS.out]; omega, by rw [HS.out]; congr 1; omega, HB2.out⟩
          case measure => simp [intOf]; omega
        · rw [szR_no hf]
          have HR := Lib.hid (szR_no (l := l) (s := (Sl R_Use).sz L) (by rw [HD.out]; omega))
          go_wp2
          go_ret
          exact ⟨by first | (rw [HR.out]; done) | (rw [HR.out]; rfl), HB2.out⟩
      · obtain rfl : k = L.length := by omega
        have HR := Lib.hid (szR_yes (l := l) (s := (Sl R_Use).sz L) (by rw [HD.out]; rw [List.take_length] at hfit; omega))
        have HT := Lib.hid (show L.take L.length = L from List.take_length)
        clear hB
        go_wp2
        go_ret
        exact ⟨by rw [HR.out, HD.out, ← HT.out]; first | rfl | (simp; done) | (simp; omega), HB.out⟩
  · have HR := Lib.hid (szR_no (l := l) (s := (Sl R_Use).sz L) (by rw [HD.out]; omega))
    go_enter Tryz.func21, Tryz.ntmps21
    go_wp2
    go_ret
    exact ⟨by first | (rw [HR.out]; done) | (rw [HR.out]; rfl), Below.refl _ _⟩
end Go.Proofs.YtelhmacfljffhaaGreat.RepC
end
section
namespace Go.Proofs.YtelhmacfljffhaaGreat.NameC
open Go.RowKit
def IsLet (c : Int) : Prop := 97 ≤ c ∧ c ≤ 122
def IsDig (c : Int) : Prop := 48 ≤ c ∧ c ≤ 57
def Good (k : Nat) (c : Int) : Prop := IsLet c ∨ (k ≠ 0 ∧ (IsDig c ∨ c = 95))
def NameP (s : ByteArray) : Prop := 1 ≤ s.size ∧ s.size ≤ 20 ∧ ∀ k, (h : k < s.size) → Good k (s[k].toNat : Int)
def Res (P : Prop) (w : World) (e : Ending) (w' : World) : Prop := ∃ b : Bool, e = .returned (.bool b) ∧ (b = true ↔ P) ∧ w = w'
theorem letter_yes (c : Int) (w : World) (h1 : 97 ≤ c) (h2 : c ≤ 122) :
    Calls Tryz.prog 153 #[.int .u8 c] w fun e w' => e = .returned (.bool true) ∧ w = w' := by
  go_enter Tryz.func153, Tryz.ntmps153
  go_wp2
  go_ret
  exact ⟨rfl, rfl⟩
theorem letter_no (c : Int) (w : World) (h : ¬ IsLet c) :
    Calls Tryz.prog 153 #[.int .u8 c] w fun e w' => e = .returned (.bool false) ∧ w = w' := by
  unfold IsLet at h
  by_cases h1 : 97 ≤ c
  · have h2 : decide (c ≤ 122) = false := by simp; omega
    go_enter Tryz.func153, Tryz.ntmps153
    go_wp2
    go_ret
    exact ⟨rfl, rfl⟩
  · go_enter Tryz.func153, Tryz.ntmps153
    go_wp2
    go_ret
    exact ⟨rfl, rfl⟩
theorem digit_yes (c : Int) (w : World) (h1 : 48 ≤ c) (h2 : c ≤ 57) :
    Calls Tryz.prog 154 #[.int .u8 c] w fun e w' => e = .returned (.bool true) ∧ w = w' := by
  go_enter Tryz.func154, Tryz.ntmps154
  go_wp2
  go_ret
  exact ⟨rfl, rfl⟩
theorem digit_no (c : Int) (w : World) (h : ¬ IsDig c) :
    Calls Tryz.prog 154 #[.int .u8 c] w fun e w' => e = .returned (.bool false) ∧ w = w' := by
  unfold IsDig at h
  by_cases h1 : 48 ≤ c
  · have h2 : decide (c ≤ 57) = false := by simp; omega
    go_enter Tryz.func154, Tryz.ntmps154
    go_wp2
    go_ret
    exact ⟨rfl, rfl⟩
  · go_enter Tryz.func154, Tryz.ntmps154
    go_wp2
    go_ret
    exact ⟨rfl, rfl⟩
theorem res_mk {P : Prop} {w : World} (b : Bool) (h : b = true ↔ P) : Res P w (.returned (.bool b)) w := ⟨b, rfl, h, rfl⟩
theorem all_succ {s : ByteArray} {k : Nat} (hall : ∀ j, (h : j < s.size) → j < k → Good j (s[j].toNat : Int)) (hk : k < s.size) (hg : Good k (s[k].toNat : Int)) :
    ∀ j, (h : j < s.size) → j < k + 1 → Good j (s[j].toNat : Int) := by
  intro j hj hlt
  by_cases e : j = k
  · subst e; exact hg
  · exact hall j hj (by omega)
theorem not_name {s : ByteArray} {k : Nat} (hk : k < s.size) (hg : ¬ Good k (s[k].toNat : Int)) : ¬ NameP s := fun h => hg (h.2.2 k hk)
theorem yes_name {s : ByteArray} {k : Nat} (h1 : 1 ≤ s.size) (h2 : s.size ≤ 20) (hall : ∀ j, (h : j < s.size) → j < k → Good j (s[j].toNat : Int)) (hk : ¬ k < s.size) : NameP s :=
  ⟨h1, h2, fun j hj => hall j hj (by omega)⟩
theorem le_f {a b : Int} (h : ¬ a ≤ b) : decide (a ≤ b) = false := by simpa using h
theorem le_t {a b : Int} (h : a ≤ b) : decide (a ≤ b) = true := by simpa using h
theorem ne_f {a b : Int} (h : a = b) : (a != b) = false := by simp [h]
theorem ne_t {a b : Int} (h : ¬ a = b) : (a != b) = true := by simp [h]
theorem eq_f {k : Nat} (h : k ≠ 0) : ((k : Int) == 0) = false := by simp; omega
set_option maxHeartbeats 1600000 in
theorem spec_any (s : ByteArray) (w : World) (hs : s.size ≤ maxLen) :
    Calls Tryz.prog 77 #[.string s] w (Res (NameP s) w) := by
  unfold maxLen at hs
  by_cases h1 : 1 ≤ s.size
  · by_cases h2 : s.size ≤ 20
    · go_enter Tryz.func77, Tryz.ntmps77
      go_wp2
      go_loop [3] (fun i => ∃ k : Nat, k ≤ s.size ∧ i = .int .i64 k ∧ ∀ j, (h : j < s.size) → j < k → Good j (s[j].toNat : Int)) (fun i => s.size - (intOf i).toNat)
      case atStart => exact ⟨0, Nat.zero_le _, rfl, fun j _ h => absurd h (Nat.not_lt_zero _)⟩
      case round =>
        obtain ⟨k, hk, rfl, hall⟩ := hrel
        by_cases hlt : k < s.size
        · by_cases hg : Good k (s[k].toNat : Int)
          · have Hall := Lib.hid (all_succ hall hlt hg)
            clear hall
            have fin : ∀ c : Int, Good k c → (97 ≤ c ∧ decide (c ≤ 122) = true) ∨ (¬ 97 ≤ c ∧ ((k : Int) == 0) = false ∧ 48 ≤ c ∧ decide (c ≤ 57) = true) ∨ (¬ 97 ≤ c ∧ ((k : Int) == 0) = false ∧ 48 ≤ c ∧ decide (c ≤ 57) = false ∧ (c != 95) = false) := by
              intro c hc
              rcases hc with ⟨a, b⟩ | ⟨a, ⟨b, d⟩ | b⟩
              · exact .inl ⟨a, le_t b⟩
              · exact .inr (.inl ⟨by omega, eq_f a, b, le_t d⟩)
              · exact .inr (.inr ⟨by omega, eq_f a, by omega, le_f (by omega), ne_f b⟩)
            have fin2 := fin _ hg
            clear fin hg
            rcases fin2 with ⟨a, b⟩ | ⟨a, b, d, e⟩ | ⟨a, b, d, e, g⟩
            all_goals
              go_wp2
              go_round
              case rel => exact ⟨k + 1, by omega, by go_num, Hall.out⟩
              case measure => simp [intOf]; omega
          · have Hn := Lib.hid (not_name hlt hg)
            clear hall
            by_cases hk0 : k = 0
            · subst hk0
              by_cases h97 : 97 ≤ (s[0].toNat : Int)
              · have b1 := le_f (a := (s[0].toNat : Int)) (b := 122) (fun h => hg (.inl ⟨h97, h⟩))
                clear hg
                go_wp2
                go_ret
                exact res_mk false (by simpa using Hn.out)
              · clear hg
                go_wp2
                go_ret
                exact res_mk false (by simpa using Hn.out)
            · have b0 := eq_f hk0
              have b2 := ne_t (a := (s[k].toNat : Int)) (b := 95) (fun h => hg (.inr ⟨hk0, .inr h⟩))
              by_cases h97 : 97 ≤ (s[k].toNat : Int)
              · have b1 := le_f (a := (s[k].toNat : Int)) (b := 122) (fun h => hg (.inl ⟨h97, h⟩))
                have b3 := le_f (a := (s[k].toNat : Int)) (b := 57) (by omega)
                have b4 : 48 ≤ (s[k].toNat : Int) := by omega
                clear hg hk0
                go_wp2
                go_ret
                exact res_mk false (by simpa using Hn.out)
              · by_cases h48 : 48 ≤ (s[k].toNat : Int)
                · have b3 := le_f (a := (s[k].toNat : Int)) (b := 57) (fun h => hg (.inr ⟨hk0, .inl ⟨h48, h⟩⟩))
                  clear hg hk0
                  go_wp2
                  go_ret
                  exact res_mk false (by simpa using Hn.out)
                · clear hg hk0
                  go_wp2
                  go_ret
                  exact res_mk false (by simpa using Hn.out)
        · have Hy := Lib.hid (yes_name h1 h2 hall hlt)
          clear hall
          go_wp2
          go_ret
          exact res_mk true (by simpa using Hy.out)
    · have hn : ¬ NameP s := fun h => h2 h.2.1
      have Hn := Lib.hid hn
      clear hn
      go_enter Tryz.func77, Tryz.ntmps77
      go_wp2
      go_ret
      exact res_mk false (by simpa using Hn.out)
  · have hn : ¬ NameP s := fun h => h1 h.1
    have Hn := Lib.hid hn
    clear hn
    go_enter Tryz.func77, Tryz.ntmps77
    go_wp2
    go_ret
    exact res_mk false (by simpa using Hn.out)
def letB (c : Int) : Bool := decide (97 ≤ c) && decide (c ≤ 122)
def digB (c : Int) : Bool := decide (48 ≤ c) && decide (c ≤ 57)
theorem letB_t {c : Int} (h : IsLet c) : letB c = true := by unfold IsLet at h; simp [letB]; omega
theorem letB_f {c : Int} (h : ¬ IsLet c) : letB c = false := by unfold IsLet at h; simp [letB]; omega
theorem digB_t {c : Int} (h : IsDig c) : digB c = true := by unfold IsDig at h; simp [digB]; omega
theorem digB_f {c : Int} (h : ¬ IsDig c) : digB c = false := by unfold IsDig at h; simp [digB]; omega
theorem letter_any (c : Int) (w : World) : Calls Tryz.prog 153 #[.int .u8 c] w fun e w' => e = .returned (.bool (letB c)) ∧ w = w' := by
  by_cases h : IsLet c
  · rw [letB_t h]; exact letter_yes c w h.1 h.2
  · rw [letB_f h]; exact letter_no c w h
theorem digit_any (c : Int) (w : World) : Calls Tryz.prog 154 #[.int .u8 c] w fun e w' => e = .returned (.bool (digB c)) ∧ w = w' := by
  by_cases h : IsDig c
  · rw [digB_t h]; exact digit_yes c w h.1 h.2
  · rw [digB_f h]; exact digit_no c w h
set_option maxHeartbeats 1600000 in
theorem impl_any (s : ByteArray) (w : World) (hs : s.size ≤ maxLen) :
    Calls Tryz.prog 97 #[.string s] w (Res (NameP s) w) := by
  unfold maxLen at hs
  by_cases h1 : 1 ≤ s.size
  · by_cases h2 : s.size ≤ 20
    · by_cases hl : IsLet (s[0].toNat : Int)
      · have HL := Lib.hid hl
        have bl := letB_t hl
        clear hl
        go_enter Tryz.func97, Tryz.ntmps97
        go_wp2_with (first | (go_at_call 153; refine (letter_any _ _).mono ?_; rintro e w' ⟨rfl, rfl⟩) | (go_at_call 154; refine (digit_any _ _).mono ?_; rintro e w' ⟨rfl, rfl⟩))
        go_loop [20] (fun i => ∃ k : Nat, k ≤ s.size ∧ i = .int .i64 k ∧ ∀ j, (h : j < s.size) → j < k → Good j (s[j].toNat : Int)) (fun i => s.size - (intOf i).toNat)
        case atStart => exact ⟨0, Nat.zero_le _, rfl, fun j _ h => absurd h (Nat.not_lt_zero _)⟩
        case round =>
          obtain ⟨k, hk, rfl, hall⟩ := hrel
          by_cases hlt : k < s.size
          · by_cases hg : Good k (s[k].toNat : Int)
            · have Hall := Lib.hid (all_succ hall hlt hg)
              clear hall
              have fin : ∀ c : Int, Good k c → letB c = true ∨ (letB c = false ∧ digB c = true) ∨ (letB c = false ∧ digB c = false ∧ (c != 95) = false) := by
                intro c hc
                by_cases a : IsLet c
                · exact .inl (letB_t a)
                · by_cases b : IsDig c
                  · exact .inr (.inl ⟨letB_f a, digB_t b⟩)
                  · rcases hc with d | ⟨_, d | d⟩
                    · exact absurd d a
                    · exact absurd d b
                    · exact .inr (.inr ⟨letB_f a, digB_f b, ne_f d⟩)
              have fin2 := fin _ hg
              clear fin hg bl
              rcases fin2 with a | ⟨a, b⟩ | ⟨a, b, d⟩
              all_goals
                go_wp2_with (first | (go_at_call 153; refine (letter_any _ _).mono ?_; rintro e w' ⟨rfl, rfl⟩) | (go_at_call 154; refine (digit_any _ _).mono ?_; rintro e w' ⟨rfl, rfl⟩))
                go_round
                case rel => exact ⟨k + 1, by omega, by go_num, Hall.out⟩
                case measure => simp [intOf]; omega
            · have Hn := Lib.hid (not_name hlt hg)
              clear hall
              by_cases hk0 : k = 0
              · subst hk0
                exact absurd (.inl HL.out) hg
              · have b1 := letB_f (fun h => hg (.inl h))
                have b2 := digB_f (fun h => hg (.inr ⟨hk0, .inl h⟩))
                have b3 := ne_t (a := (s[k].toNat : Int)) (b := 95) (fun h => hg (.inr ⟨hk0, .inr h⟩))
                clear hg hk0 bl
                go_wp2_with (first | (go_at_call 153; refine (letter_any _ _).mono ?_; rintro e w' ⟨rfl, rfl⟩) | (go_at_call 154; refine (digit_any _ _).mono ?_; rintro e w' ⟨rfl, rfl⟩))
                go_ret
                exact res_mk false (by simpa using Hn.out)
          · have Hy := Lib.hid (yes_name h1 h2 hall hlt)
            clear hall
            go_wp2
            go_ret
            exact res_mk true (by simpa using Hy.out)
      · have hn : ¬ NameP s := fun h => by
          rcases h.2.2 0 (by omega) with a | ⟨a, _⟩
          · exact hl a
          · exact a rfl
        have Hn := Lib.hid hn
        have bl := letB_f hl
        clear hn hl
        go_enter Tryz.func97, Tryz.ntmps97
        go_wp2_with (go_at_call 153; refine (letter_any _ _).mono ?_; rintro e w' ⟨rfl, rfl⟩)
        go_ret
        exact res_mk false (by simpa using Hn.out)
    · have hn : ¬ NameP s := fun h => h2 h.2.1
      have Hn := Lib.hid hn
      clear hn
      go_enter Tryz.func97, Tryz.ntmps97
      go_wp2
      go_ret
      exact res_mk false (by simpa using Hn.out)
  · have hn : ¬ NameP s := fun h => h1 h.1
    have Hn := Lib.hid hn
    clear hn
    go_enter Tryz.func97, Tryz.ntmps97
    go_wp2
    go_ret
    exact res_mk false (by simpa using Hn.out)
end Go.Proofs.YtelhmacfljffhaaGreat.NameC
end
section
namespace Go.Proofs.YtelhmacfljffhaaGreat.LabC
open Go.RowKit
def rP (l s : Int) : Prop := 0 ≤ l ∧ l ≤ 3 ∧ 0 ≤ s ∧ s ≤ 7
def rB (l s : Int) : Bool := decide (0 ≤ l) && (decide (l ≤ 3) && (decide (0 ≤ s) && decide (s ≤ 7)))
theorem rB_iff (l s : Int) : rB l s = true ↔ rP l s := by unfold rB rP; simp
def isB (n lo hi : Int) : Bool := decide (lo ≤ n) && decide (n ≤ hi)
def lab (l s : Int) : Value := .agg #[.int .i64 l, .int .i64 s]
theorem is_any (n lo hi : Int) (w : World) :
    Calls Tryz.prog 67 #[.int .i64 n, .int .i64 lo, .int .i64 hi] w fun e w' => e = .returned (.bool (isB n lo hi)) ∧ w = w' := by
  by_cases h1 : lo ≤ n
  · by_cases h2 : n ≤ hi
    · have hb : isB n lo hi = true := by simp [isB, h1, h2]
      rw [hb]; clear hb
      go_enter Tryz.func67, Tryz.ntmps67
      go_wp2
      go_ret
      exact ⟨rfl, rfl⟩
    · have hb : isB n lo hi = false := by simp [isB, h1, h2]
      rw [hb]; clear hb
      have h2' : decide (n ≤ hi) = false := by simpa using h2
      go_enter Tryz.func67, Tryz.ntmps67
      go_wp2
      go_ret
      exact ⟨rfl, rfl⟩
  · have hb : isB n lo hi = false := by simp [isB, h1]
    rw [hb]; clear hb
    have h1' : decide (lo ≤ n) = false := by simpa using h1
    go_enter Tryz.func67, Tryz.ntmps67
    go_wp2
    go_ret
    exact ⟨rfl, rfl⟩
def labO (l s : Int) : Obj := .cells #[.int .i64 l, .int .i64 s] 67
theorem right_spec (l s : Int) (w : World) :
    Calls Tryz.prog 76 #[lab l s] w fun e w' => e = .returned (.bool (rB l s)) ∧ w.alloc (labO l s) = w' := by
  unfold lab
  by_cases h1 : isB l 0 3 = true
  · have hb : rB l s = isB s 0 7 := by simp [isB] at h1; simp [rB, isB, h1]
    rw [hb]; clear hb
    go_enter Tryz.func76, Tryz.ntmps76
    go_wp2_with (go_at_call 67; refine (is_any _ _ _ _).mono ?_; rintro e w' ⟨rfl, rfl⟩)
    go_ret
    exact ⟨rfl, rfl⟩
  · have h1' : isB l 0 3 = false := by simpa using h1
    have hb : rB l s = false := by
      simp [isB] at h1; simp [rB]; omega
    rw [hb]; clear hb h1
    go_enter Tryz.func76, Tryz.ntmps76
    go_wp2_with (go_at_call 67; refine (is_any _ _ _ _).mono ?_; rintro e w' ⟨rfl, rfl⟩)
    go_ret
    exact ⟨rfl, rfl⟩
theorem le_f {a b : Int} (h : ¬ a ≤ b) : decide (a ≤ b) = false := by simpa using h
theorem right_impl (l s : Int) (w : World) :
    Calls Tryz.prog 96 #[lab l s] w fun e w' => e = .returned (.bool (rB l s)) ∧ w.alloc (labO l s) = w' := by
  unfold lab
  by_cases h1 : 0 ≤ l
  · by_cases h2 : l ≤ 3
    · by_cases h3 : 0 ≤ s
      · by_cases h4 : s ≤ 7
        · have hb : rB l s = true := by rw [rB_iff]; exact ⟨h1, h2, h3, h4⟩
          rw [hb]; clear hb
          go_enter Tryz.func96, Tryz.ntmps96
          go_wp2
          go_ret
          exact ⟨rfl, rfl⟩
        · have hb : rB l s = false := by simp [rB]; omega
          rw [hb]; clear hb
          have g := le_f h4
          go_enter Tryz.func96, Tryz.ntmps96
          go_wp2
          go_ret
          exact ⟨rfl, rfl⟩
      · have hb : rB l s = false := by simp [rB]; omega
        rw [hb]; clear hb
        have g := le_f h3
        go_enter Tryz.func96, Tryz.ntmps96
        go_wp2
        go_ret
        exact ⟨rfl, rfl⟩
    · have hb : rB l s = false := by simp [rB]; omega
      rw [hb]; clear hb
      have g := le_f h2
      go_enter Tryz.func96, Tryz.ntmps96
      go_wp2
      go_ret
      exact ⟨rfl, rfl⟩
  · have hb : rB l s = false := by simp [rB]; omega
    rw [hb]; clear hb
    have g := le_f h1
    go_enter Tryz.func96, Tryz.ntmps96
    go_wp2
    go_ret
    exact ⟨rfl, rfl⟩
def minV (a b : Int) : Int := if a < b then a else b
def bB (l s m t : Int) : Bool := decide (l ≤ m) && (bits BinOp.and IntKind.i64 s t == s)
theorem below2_spec (l s m t : Int) (w : World) :
    Calls Tryz.prog 131 #[lab l s, lab m t] w fun e w' => e = .returned (.bool (bB l s m t)) ∧ (w.alloc (labO l s)).alloc (labO m t) = w' := by
  unfold lab
  by_cases h : l ≤ m
  · have hb : bB l s m t = (bits BinOp.and IntKind.i64 s t == s) := by simp [bB, h]
    rw [hb]; clear hb
    go_enter Tryz.func131, Tryz.ntmps131
    go_wp2
    go_ret
    exact ⟨rfl, rfl⟩
  · have hb : bB l s m t = false := by simp [bB, h]
    rw [hb]; clear hb
    have g := le_f h
    go_enter Tryz.func131, Tryz.ntmps131
    go_wp2
    go_ret
    exact ⟨rfl, rfl⟩
def meetV (l s m t : Int) : Value := if rB l s = true ∧ rB m t = true then lab (minV l m) (bits BinOp.and IntKind.i64 s t) else lab 0 0
theorem min_lt {a b : Int} (h : a < b) : a = minV a b := by unfold minV; split <;> omega
theorem min_ge {a b : Int} (h : b ≤ a) : b = minV a b := by unfold minV; split <;> omega
end Go.Proofs.YtelhmacfljffhaaGreat.LabC
end
section
namespace Go.Proofs.YtelhmacfljffhaaGreat.SpanC
open Go.RowKit KeptC
def ResB (P : Prop) (w : World) (e : Ending) (w' : World) : Prop := ∃ b : Bool, e = .returned (.bool b) ∧ (b = true ↔ P) ∧ Below w.heap.size w w'
theorem resB_yes {P : Prop} {w w' : World} (h : P) (hb : Below w.heap.size w w') : ResB P w (.returned (.bool true)) w' := ⟨true, rfl, by simp [h], hb⟩
theorem resB_no {P : Prop} {w w' : World} (h : ¬ P) (hb : Below w.heap.size w w') : ResB P w (.returned (.bool false)) w' := ⟨false, rfl, by simp [h], hb⟩
theorem resB_elim {P : Prop} {w : World} {e : Ending} {w' : World} (h : ResB P w e w') : ∃ b : Bool, e = .returned (.bool b) ∧ (b = true ↔ P) ∧ Below w.heap.size w w' := h
theorem all_step {P : Nat → Prop} {k : Nat} (h : ∀ j, j < k → P j) (hk : P k) : ∀ j, j < k + 1 → P j := fun j hj => by
  by_cases e : j = k
  · subst e; exact hk
  · exact h j (by omega)
end Go.Proofs.YtelhmacfljffhaaGreat.SpanC
end
section
namespace Go.Proofs.YtelhmacfljffhaaGreat.SpanC
open Go.RowKit KeptC
def isB (n lo hi : Int) : Bool := decide (lo ≤ n) && decide (n ≤ hi)
theorem isB_iff (n lo hi : Int) : isB n lo hi = true ↔ lo ≤ n ∧ n ≤ hi := by simp [isB]
theorem is_spec (n lo hi : Int) (w : World) :
    Calls Tryz.prog 67 #[.int .i64 n, .int .i64 lo, .int .i64 hi] w fun e w' => e = .returned (.bool (isB n lo hi)) ∧ w = w' := by
  by_cases h1 : lo ≤ n
  · by_cases h2 : n ≤ hi
    · have hb : isB n lo hi = true := by simp [isB, h1, h2]
      rw [hb]; clear hb
      go_enter Tryz.func67, Tryz.ntmps67
      go_wp2
      go_ret
      exact ⟨rfl, rfl⟩
    · have hb : isB n lo hi = false := by simp [isB, h1, h2]
      rw [hb]; clear hb
      have h2' : decide (n ≤ hi) = false := by simpa using h2
      go_enter Tryz.func67, Tryz.ntmps67
      go_wp2
      go_ret
      exact ⟨rfl, rfl⟩
  · have hb : isB n lo hi = false := by simp [isB, h1]
    rw [hb]; clear hb
    have h1' : decide (lo ≤ n) = false := by simpa using h1
    go_enter Tryz.func67, Tryz.ntmps67
    go_wp2
    go_ret
    exact ⟨rfl, rfl⟩
theorem is_impl (n lo hi : Int) (w : World) :
    Calls Tryz.prog 90 #[.int .i64 n, .int .i64 lo, .int .i64 hi] w fun e w' => e = .returned (.bool (isB n lo hi)) ∧ w = w' := by
  by_cases h1 : lo ≤ n
  · by_cases h2 : n ≤ hi
    · have hb : isB n lo hi = true := by simp [isB, h1, h2]
      rw [hb]; clear hb
      go_enter Tryz.func90, Tryz.ntmps90
      go_wp2
      go_ret
      exact ⟨rfl, rfl⟩
    · have hb : isB n lo hi = false := by simp [isB, h1, h2]
      rw [hb]; clear hb
      have h2' : decide (n ≤ hi) = false := by simpa using h2
      go_enter Tryz.func90, Tryz.ntmps90
      go_wp2
      go_ret
      exact ⟨rfl, rfl⟩
  · have hb : isB n lo hi = false := by simp [isB, h1]
    rw [hb]; clear hb
    have h1' : decide (lo ≤ n) = false := by simpa using h1
    go_enter Tryz.func90, Tryz.ntmps90
    go_wp2
    go_ret
    exact ⟨rfl, rfl⟩
theorem time_spec (n : Int) (w : World) :
    Calls Tryz.prog 134 #[.int .i64 n] w fun e w' => e = .returned (.bool (isB n 0 1000000)) ∧ w = w' := by
  go_enter Tryz.func134, Tryz.ntmps134
  go_wp2_with (go_at_call 67; refine (is_spec _ _ _ _).mono ?_; rintro e w' ⟨rfl, rfl⟩)
  go_ret
  exact ⟨rfl, rfl⟩
theorem time_impl (n : Int) (w : World) :
    Calls Tryz.prog 183 #[.int .i64 n] w fun e w' => e = .returned (.bool (isB n 0 1000000)) ∧ w = w' := by
  go_enter Tryz.func183, Tryz.ntmps183
  go_wp2_with (go_at_call 90; refine (is_impl _ _ _ _).mono ?_; rintro e w' ⟨rfl, rfl⟩)
  go_ret
  exact ⟨rfl, rfl⟩
def spB (a b : Int) : Bool := isB a 0 1000000 && (decide (a < b) && decide (b ≤ 1000000))
theorem right_spec (a b : Int) (w : World) :
    Calls Tryz.prog 132 #[.agg #[.int .i64 a, .int .i64 b]] w fun e w' => e = .returned (.bool (spB a b)) ∧ Below w.heap.size w w' := by
  have hB : Below w.heap.size w (w.alloc (.cells #[.int .i64 a, .int .i64 b] 172)) := (Below.refl _ _).alloc (Nat.le_refl _) _
  have HB := Lib.hid hB
  clear hB
  cases h1 : isB a 0 1000000 with
  | true =>
    by_cases h2 : a < b
    · by_cases h3 : b ≤ 1000000
      · have hb : spB a b = true := by simp [spB, h1, h2, h3]
        rw [hb]; clear hb
        have hc := fun W => time_spec a W
        rw [h1] at hc
        clear h1
        go_enter Tryz.func132, Tryz.ntmps132
        go_wp2_with (go_at_call 134; refine (hc _).mono ?_; rintro e w' ⟨rfl, rfl⟩)
        go_ret
        exact ⟨rfl, HB.out⟩
      · have hb : spB a b = false := by simp [spB, h3]
        rw [hb]; clear hb
        have h3' : decide (b ≤ 1000000) = false := by simpa using h3
        have hc := fun W => time_spec a W
        rw [h1] at hc
        clear h1
        go_enter Tryz.func132, Tryz.ntmps132
        go_wp2_with (go_at_call 134; refine (hc _).mono ?_; rintro e w' ⟨rfl, rfl⟩)
        go_ret
        exact ⟨rfl, HB.out⟩
    · have hb : spB a b = false := by simp [spB, h2]
      rw [hb]; clear hb
      have h2' : decide (a < b) = false := by simpa using h2
      have hc := fun W => time_spec a W
      rw [h1] at hc
      clear h1
      go_enter Tryz.func132, Tryz.ntmps132
      go_wp2_with (go_at_call 134; refine (hc _).mono ?_; rintro e w' ⟨rfl, rfl⟩)
      go_ret
      exact ⟨rfl, HB.out⟩
  | false =>
    have hb : spB a b = false := by simp [spB, h1]
    rw [hb]; clear hb
    have hc := fun W => time_spec a W
    rw [h1] at hc
    clear h1
    go_enter Tryz.func132, Tryz.ntmps132
    go_wp2_with (go_at_call 134; refine (hc _).mono ?_; rintro e w' ⟨rfl, rfl⟩)
    go_ret
    exact ⟨rfl, HB.out⟩
theorem right_impl (a b : Int) (w : World) :
    Calls Tryz.prog 146 #[.agg #[.int .i64 a, .int .i64 b]] w fun e w' => e = .returned (.bool (spB a b)) ∧ Below w.heap.size w w' := by
  have hB : Below w.heap.size w (w.alloc (.cells #[.int .i64 a, .int .i64 b] 172)) := (Below.refl _ _).alloc (Nat.le_refl _) _
  have HB := Lib.hid hB
  clear hB
  cases h1 : isB a 0 1000000 with
  | true =>
    by_cases h2 : a < b
    · by_cases h3 : b ≤ 1000000
      · have hb : spB a b = true := by simp [spB, h1, h2, h3]
        rw [hb]; clear hb
        have hc := fun W => time_impl a W
        rw [h1] at hc
        clear h1
        go_enter Tryz.func146, Tryz.ntmps146
        go_wp2_with (go_at_call 183; refine (hc _).mono ?_; rintro e w' ⟨rfl, rfl⟩)
        go_ret
        exact ⟨rfl, HB.out⟩
      · have hb : spB a b = false := by simp [spB, h3]
        rw [hb]; clear hb
        have h3' : decide (b ≤ 1000000) = false := by simpa using h3
        have hc := fun W => time_impl a W
        rw [h1] at hc
        clear h1
        go_enter Tryz.func146, Tryz.ntmps146
        go_wp2_with (go_at_call 183; refine (hc _).mono ?_; rintro e w' ⟨rfl, rfl⟩)
        go_ret
        exact ⟨rfl, HB.out⟩
    · have hb : spB a b = false := by simp [spB, h2]
      rw [hb]; clear hb
      have h2' : decide (a < b) = false := by simpa using h2
      have hc := fun W => time_impl a W
      rw [h1] at hc
      clear h1
      go_enter Tryz.func146, Tryz.ntmps146
      go_wp2_with (go_at_call 183; refine (hc _).mono ?_; rintro e w' ⟨rfl, rfl⟩)
      go_ret
      exact ⟨rfl, HB.out⟩
  | false =>
    have hb : spB a b = false := by simp [spB, h1]
    rw [hb]; clear hb
    have hc := fun W => time_impl a W
    rw [h1] at hc
    clear h1
    go_enter Tryz.func146, Tryz.ntmps146
    go_wp2_with (go_at_call 183; refine (hc _).mono ?_; rintro e w' ⟨rfl, rfl⟩)
    go_ret
    exact ⟨rfl, HB.out⟩
theorem before_impl (a b c d : Int) (w : World) :
    Calls Tryz.prog 231 #[.agg #[.int .i64 a, .int .i64 b], .agg #[.int .i64 c, .int .i64 d]] w fun e w' => e = .returned (.bool (decide (b ≤ c))) ∧ Below w.heap.size w w' := by
  go_enter Tryz.func231, Tryz.ntmps231
  go_wp2
  go_ret
  exact ⟨rfl, ((Below.refl _ _).alloc (Nat.le_refl _) _).alloc (by simp) _⟩
end Go.Proofs.YtelhmacfljffhaaGreat.SpanC
end
section
namespace Go.Proofs.YtelhmacfljffhaaGreat.RepC
open Go.RowKit RowC ValC SpanC KeptC NameC
set_option linter.unusedVariables false
set_option linter.unusedSimpArgs false
def sLt (a b : ByteArray) : Bool := Op.bytesLess a.toList b.toList
theorem sLt_iff (a b : ByteArray) : sLt a b = true ↔ a.toList < b.toList := by unfold sLt; rw [bytesLess_eq]; simp
theorem bl_inj {a b : ByteArray} (h : a.toList = b.toList) : a = b := by
  rw [Lib.toList_data, Lib.toList_data] at h
  cases a; cases b
  simp only [ByteArray.mk.injEq]
  exact Array.toList_inj.1 h
theorem sLt_irrefl (a : ByteArray) : sLt a a = false := by
  rw [Bool.eq_false_iff, ne_eq, sLt_iff]
  exact List.lt_irrefl _
theorem sLt_trans {a b c : ByteArray} (h1 : sLt a b = true) (h2 : sLt b c = true) : sLt a c = true := by
  rw [sLt_iff] at *
  exact List.lt_trans h1 h2
theorem sLt_tri {a b : ByteArray} (h1 : sLt a b = false) (h2 : sLt b a = false) : a = b := by
  rw [Bool.eq_false_iff, ne_eq, sLt_iff] at *
  exact bl_inj (List.le_antisymm (List.not_lt.1 h2) (List.not_lt.1 h1))
theorem sLt_asymm {a b : ByteArray} (h1 : sLt a b = true) : sLt b a = false := by
  rw [Bool.eq_false_iff]
  intro h2
  have := sLt_trans h1 h2
  rw [sLt_irrefl] at this
  cases this
def ltLb (a b : D_Label) : Prop := a.1 < b.1 ∨ (a.1 = b.1 ∧ a.2 < b.2)
def leLb (a b : D_Label) : Prop := a = b ∨ ltLb a b
theorem ltLb_trans {a b c : D_Label} (h1 : ltLb a b) (h2 : ltLb b c) : ltLb a c := by unfold ltLb at *; omega
theorem ltLb_irrefl {a : D_Label} : ¬ ltLb a a := by unfold ltLb; omega
theorem leLb_trans {a b c : D_Label} (h1 : leLb a b) (h2 : leLb b c) : leLb a c := by
  rcases h1 with rfl | h1
  · exact h2
  · rcases h2 with rfl | h2
    · exact .inr h1
    · exact .inr (ltLb_trans h1 h2)
theorem leLb_anti {a b : D_Label} (h1 : leLb a b) (h2 : leLb b a) : a = b := by
  rcases h1 with h | h1
  · exact h
  · rcases h2 with h | h2
    · exact h.symm
    · exact absurd (ltLb_trans h1 h2) ltLb_irrefl
def ltU (x y : D_Use) : Prop := ltLb x.1 y.1 ∨ (x.1 = y.1 ∧ sLt x.2.1 y.2.1 = true)
theorem ltU_lab {x y : D_Use} (h : ltU x y) : leLb x.1 y.1 := by
  rcases h with h | ⟨h, _⟩
  · exact .inr h
  · exact .inl h
def okU (x : D_Use) : Prop := LabC.rB x.1.1 x.1.2 = true ∧ NameP x.2.1 ∧ isB x.2.2 1 100000 = true
def okAt (L : List D_Use) (i : Nat) (x : D_Use) : Prop := okU x ∧ (∀ y, 0 < i → L[i - 1]? = some y → ltU y x) ∧ ∀ y, 6 ≤ i → L[i - 6]? = some y → y.1 ≠ x.1
def usTo (L : List D_Use) (k : Nat) : Prop := ∀ i x, i < k → L[i]? = some x → okAt L i x
def UsesR (L : List D_Use) : Prop := L.length ≤ 48 ∧ ∀ i x, L[i]? = some x → okAt L i x
open Classical in
noncomputable def usesB (L : List D_Use) : Bool := decide (UsesR L)
open Classical in
theorem usesB_iff {L : List D_Use} : usesB L = true ↔ UsesR L := by unfold usesB; simp
theorem usTo_zero {L : List D_Use} : usTo L 0 := fun i x h => absurd h (Nat.not_lt_zero _)
theorem usTo_step {L : List D_Use} {k : Nat} {x : D_Use} (h : usTo L k) (hx : L[k]? = some x) (hk : okAt L k x) : usTo L (k + 1) := fun i y hi hy => by
  rcases Nat.lt_succ_iff_lt_or_eq.1 hi with h1 | h1
  · exact h i y h1 hy
  · subst h1; rw [hx] at hy; cases hy; exact hk
theorem usesR_all {L : List D_Use} (h1 : L.length ≤ 48) (h : usTo L L.length) : UsesR L := ⟨h1, fun i x hx => h i x (List.getElem?_eq_some_iff.1 hx).1 hx⟩
theorem resB_is {P : Prop} {b : Bool} {w w' : World} {e : Ending} (hb : b = true ↔ P) (h : ResB P w e w') : IsB b w e w' := by
  obtain ⟨c, rfl, hc, hB⟩ := h
  obtain rfl : c = b := by
    cases c <;> cases b <;> first | rfl | exact absurd (hc.2 (hb.1 rfl)) (by decide) | exact absurd (hb.2 (hc.1 rfl)) (by decide)
  exact ⟨rfl, hB⟩
def runU (L : List D_Use) (k c : Nat) : Prop := (k = 0 ∧ c = 0) ∨ (1 ≤ c ∧ c ≤ k ∧ (∀ j x y, k - c ≤ j → j < k → L[j]? = some x → L[k - 1]? = some y → x.1 = y.1) ∧ ∀ x y, c < k → L[k - c - 1]? = some x → L[k - 1]? = some y → x.1 ≠ y.1)
theorem runU_zero {L : List D_Use} : runU L 0 0 := .inl ⟨rfl, rfl⟩
theorem el_of {L : List D_Use} {k : Nat} (h : k < L.length) : ∃ x, L[k]? = some x := ⟨L[k], List.getElem?_eq_getElem h⟩
theorem runU_more {L : List D_Use} {k c : Nat} {x y : D_Use} (h : runU L k c) (h0 : 0 < k) (hy : L[k - 1]? = some y) (hx : L[k]? = some x) (he : y.1 = x.1) : runU L (k + 1) (c + 1) := by
  rcases h with ⟨h, _⟩ | ⟨h1, h2, h3, h4⟩
  · omega
  · refine .inr ⟨by omega, by omega, fun j u v hj hj2 hu hv => ?_, fun u v hc hu hv => ?_⟩
    · rw [Nat.add_sub_cancel] at hv
      rw [hx] at hv
      cases hv
      by_cases e : j = k
      · subst e; rw [hx] at hu; cases hu; rfl
      · exact (h3 j u y (by omega) (by omega) hu hy).trans he
    · rw [Nat.add_sub_cancel] at hv
      rw [hx] at hv
      cases hv
      rw [← he]
      exact h4 u y (by omega) (by rw [show k - c - 1 = k + 1 - (c + 1) - 1 by omega]; exact hu) hy
theorem runU_new {L : List D_Use} {k : Nat} {x : D_Use} (hx : L[k]? = some x) (h : ∀ y, 0 < k → L[k - 1]? = some y → y.1 ≠ x.1) : runU L (k + 1) 1 := by
  refine .inr ⟨Nat.le_refl _, by omega, fun j u v hj hj2 hu hv => ?_, fun u v hc hu hv => ?_⟩
  · rw [Nat.add_sub_cancel] at hv
    obtain rfl : j = k := by omega
    rw [hu] at hv
    cases hv
    rfl
  · rw [Nat.add_sub_cancel] at hv
    rw [hx] at hv
    cases hv
    exact h u (by omega) hu
theorem usTo_mono {L : List D_Use} {k : Nat} (h : usTo L k) (hk : k ≤ L.length) {i : Nat} {x : D_Use} (hx : L[i]? = some x) : ∀ {j : Nat} {y : D_Use}, i ≤ j → j < k → L[j]? = some y → leLb x.1 y.1 := by
  intro j
  induction j with
  | zero =>
    intro y hij _ hy
    obtain rfl : i = 0 := by omega
    rw [hx] at hy; cases hy
    exact .inl rfl
  | succ j ih =>
    intro y hij hj hy
    by_cases e : i = j + 1
    · subst e; rw [hx] at hy; cases hy; exact .inl rfl
    · obtain ⟨z, hz⟩ := el_of (L := L) (k := j) (by omega)
      exact leLb_trans (ih (by omega) (by omega) hz) (ltU_lab ((h (j + 1) y hj hy).2.1 z (by omega) hz))
theorem run_six {L : List D_Use} {k c : Nat} {x : D_Use} (hT : usTo L k) (hx : L[k]? = some x) (ho : okU x) (hl : ∀ y, 0 < k → L[k - 1]? = some y → ltU y x) (hr : runU L (k + 1) c) : c ≤ 6 ↔ ∀ y, 6 ≤ k → L[k - 6]? = some y → y.1 ≠ x.1 := by
  have hk : k < L.length := (List.getElem?_eq_some_iff.1 hx).1
  rcases hr with ⟨h, _⟩ | ⟨h1, h2, h3, h4⟩
  · omega
  rw [Nat.add_sub_cancel] at h3 h4
  constructor
  · intro hc y h6 hy he
    obtain ⟨z, hz⟩ := el_of (L := L) (k := k + 1 - c - 1) (by omega)
    have hlast : ∀ {j : Nat} {u : D_Use}, j < k → L[j]? = some u → leLb u.1 x.1 := fun {j u} hj hu => by
      obtain ⟨v, hv⟩ := el_of (L := L) (k := k - 1) (by omega)
      exact leLb_trans (usTo_mono hT (by omega) hu (by omega) (by omega) hv) (ltU_lab (hl v (by omega) hv))
    have e1 : leLb y.1 z.1 := usTo_mono hT (by omega) hy (by omega) (by omega) hz
    have e2 : leLb z.1 x.1 := hlast (by omega) hz
    rw [he] at e1
    exact h4 z x (by omega) hz hx (leLb_anti e2 e1)
  · intro h
    by_cases hc : c ≤ 6
    · exact hc
    · exfalso
      obtain ⟨z, hz⟩ := el_of (L := L) (k := k - 6) (by omega)
      exact h z (by omega) hz (h3 (k - 6) z x (by omega) (by omega) hz hx)
end Go.Proofs.YtelhmacfljffhaaGreat.RepC
end
section
namespace Go.Proofs.YtelhmacfljffhaaGreat.LabC
open Go.RowKit
theorem meet_yes {l s m t : Int} (h1 : rB l s = true) (h2 : rB m t = true) : meetV l s m t = lab (minV l m) (bits BinOp.and IntKind.i64 s t) := by unfold meetV; rw [if_pos ⟨h1, h2⟩]
theorem meet_no1 {l s m t : Int} (h1 : rB l s = false) : meetV l s m t = .agg #[.int .i64 0, .int .i64 0] := by unfold meetV; rw [if_neg (by simp [h1])]; rfl
theorem meet_no2 {l s m t : Int} (h1 : rB m t = false) : meetV l s m t = .agg #[.int .i64 0, .int .i64 0] := by unfold meetV; rw [if_neg (by simp [h1])]; rfl
set_option maxRecDepth 100000 in
set_option maxHeartbeats 1600000 in
theorem meet_impl (l s m t : Int) (w : World) :
    Calls Tryz.prog 180 #[lab l s, lab m t] w fun e w' => e = .returned (meetV l s m t) ∧ Below w.heap.size w w' := by
  by_cases h1 : rB l s = true
  · by_cases h2 : rB m t = true
    · rw [meet_yes h1 h2]
      unfold lab
      go_enter Tryz.func180, Tryz.ntmps180
      go_wp2_with (go_at_call 96; refine (right_impl _ _ _).mono ?_; unfold labO; rintro e w1 ⟨rfl, rfl⟩)
      all_goals
        refine bodyPost_ret (v := .agg #[.int .i64 (minV l m), .int .i64 (bits BinOp.and IntKind.i64 s t)]) (by simp [results, Tryz.results180, go_sem]; first | exact min_lt ‹_› | exact min_ge ‹_› | (unfold minV; split <;> omega)) rfl ⟨rfl, ?_⟩
        repeat (first | exact Below.refl _ _ | refine Below.setCell ?_ (by simp <;> omega) _ | refine Below.drew ?_ | refine Below.alloc ?_ (by simp <;> omega) _)
    · have h2' : rB m t = false := by simpa using h2
      rw [meet_no2 h2']
      clear h2
      unfold lab
      go_enter Tryz.func180, Tryz.ntmps180
      go_wp2_with (go_at_call 96; refine (right_impl _ _ _).mono ?_; unfold labO; rintro e w1 ⟨rfl, rfl⟩)
      refine bodyPost_ret (v := .agg #[.int .i64 0, .int .i64 0]) (by simp [results, Tryz.results180, go_sem]) rfl ⟨rfl, ?_⟩
      repeat (first | exact Below.refl _ _ | refine Below.setCell ?_ (by simp <;> omega) _ | refine Below.drew ?_ | refine Below.alloc ?_ (by simp <;> omega) _)
  · have h1' : rB l s = false := by simpa using h1
    rw [meet_no1 h1']
    clear h1
    unfold lab
    go_enter Tryz.func180, Tryz.ntmps180
    go_wp2_with (go_at_call 96; refine (right_impl _ _ _).mono ?_; unfold labO; rintro e w1 ⟨rfl, rfl⟩)
    refine bodyPost_ret (v := .agg #[.int .i64 0, .int .i64 0]) (by simp [results, Tryz.results180, go_sem]) rfl ⟨rfl, ?_⟩
    repeat (first | exact Below.refl _ _ | refine Below.setCell ?_ (by simp <;> omega) _ | refine Below.drew ?_ | refine Below.alloc ?_ (by simp <;> omega) _)
end Go.Proofs.YtelhmacfljffhaaGreat.LabC
end
section
namespace Go.Proofs.YtelhmacfljffhaaGreat.LabC
open Go.RowKit KeptC
theorem inits (w : World) (l s m t : Int) (k k' : TypeId) : KS w (w.heap.size + 2) [(w.heap.size, 0, .int .i64 l), (w.heap.size, 1, .int .i64 s), (w.heap.size + 1, 0, .int .i64 m), (w.heap.size + 1, 1, .int .i64 t)] ((w.alloc (.cells #[.int .i64 l, .int .i64 s] k)).alloc (.cells #[.int .i64 m, .int .i64 t] k')) :=
  ⟨by simp, by simp, by simp, ((Below.refl _ _).alloc (Nat.le_refl _) _).alloc (by simp) _, by simp⟩
theorem rs_w (l s : Int) (w : World) : Calls Tryz.prog 76 #[.agg #[.int .i64 l, .int .i64 s]] w fun e w' => e = .returned (.bool (rB l s)) ∧ Below w.heap.size w w' :=
  (right_spec l s w).mono fun e w' ⟨he, hw⟩ => ⟨he, by rw [← hw]; exact (Below.refl _ _).alloc (Nat.le_refl _) _⟩
theorem ri_w (l s : Int) (w : World) : Calls Tryz.prog 96 #[.agg #[.int .i64 l, .int .i64 s]] w fun e w' => e = .returned (.bool (rB l s)) ∧ Below w.heap.size w w' :=
  (right_impl l s w).mono fun e w' ⟨he, hw⟩ => ⟨he, by rw [← hw]; exact (Below.refl _ _).alloc (Nat.le_refl _) _⟩
def belowB (l s m t : Int) : Bool := rB l s && (rB m t && bB l s m t)
theorem below_yes {l s m t : Int} (h1 : rB l s = true) (h2 : rB m t = true) : belowB l s m t = bB l s m t := by simp [belowB, h1, h2]
theorem below_no1 {l s m t : Int} (h1 : rB l s = false) : belowB l s m t = false := by simp [belowB, h1]
theorem below_no2 {l s m t : Int} (h1 : rB m t = false) : belowB l s m t = false := by simp [belowB, h1]
theorem below_spec (l s m t : Int) (w : World) :
    Calls Tryz.prog 133 #[lab l s, lab m t] w fun e w' => e = .returned (.bool (belowB l s m t)) ∧ Below w.heap.size w w' := by
  by_cases h1 : rB l s = true
  · by_cases h2 : rB m t = true
    · rw [below_yes h1 h2]
      unfold lab
      go_enter Tryz.func133, Tryz.ntmps133
      go_wp2_with (first | (go_at_call 76; refine (right_spec _ _ _).mono ?_; unfold labO; rintro e w1 ⟨rfl, rfl⟩) | (go_at_call 131; refine (below2_spec _ _ _ _ _).mono ?_; unfold labO; rintro e w1 ⟨rfl, rfl⟩))
      go_ret
      refine ⟨rfl, ?_⟩
      repeat (first | exact Below.refl _ _ | refine Below.setCell ?_ (by simp <;> omega) _ | refine Below.drew ?_ | refine Below.alloc ?_ (by simp <;> omega) _)
    · have h2' : rB m t = false := by simpa using h2
      rw [below_no2 h2']
      clear h2
      unfold lab
      go_enter Tryz.func133, Tryz.ntmps133
      go_wp2_with (first | (go_at_call 76; refine (right_spec _ _ _).mono ?_; unfold labO; rintro e w1 ⟨rfl, rfl⟩) | (go_at_call 131; refine (below2_spec _ _ _ _ _).mono ?_; unfold labO; rintro e w1 ⟨rfl, rfl⟩))
      go_ret
      refine ⟨rfl, ?_⟩
      repeat (first | exact Below.refl _ _ | refine Below.setCell ?_ (by simp <;> omega) _ | refine Below.drew ?_ | refine Below.alloc ?_ (by simp <;> omega) _)
  · have h1' : rB l s = false := by simpa using h1
    rw [below_no1 h1']
    clear h1
    unfold lab
    go_enter Tryz.func133, Tryz.ntmps133
    go_wp2_with (first | (go_at_call 76; refine (right_spec _ _ _).mono ?_; unfold labO; rintro e w1 ⟨rfl, rfl⟩) | (go_at_call 131; refine (below2_spec _ _ _ _ _).mono ?_; unfold labO; rintro e w1 ⟨rfl, rfl⟩))
    go_ret
    refine ⟨rfl, ?_⟩
    repeat (first | exact Below.refl _ _ | refine Below.setCell ?_ (by simp <;> omega) _ | refine Below.drew ?_ | refine Below.alloc ?_ (by simp <;> omega) _)
theorem eq_below (l s m t : Int) : bB l s m t = ((minV l m == l) && (bits BinOp.and IntKind.i64 s t == s)) := by
  have h : decide (l ≤ m) = (minV l m == l) := by
    rw [Bool.eq_iff_iff]; simp [minV]; omega
  unfold bB
  rw [h]
theorem two_ways (a b : Bool) : a = false ∧ (a && b) = false ∨ (a = true ∧ b = false) ∧ (a && b) = false ∨ (a = true ∧ b = true) ∧ (a && b) = true := by cases a <;> cases b <;> simp
set_option maxRecDepth 100000 in
set_option maxHeartbeats 1600000 in
theorem below_impl (l s m t : Int) (w : World) :
    Calls Tryz.prog 144 #[lab l s, lab m t] w fun e w' => e = .returned (.bool (belowB l s m t)) ∧ Below w.heap.size w w' := by
  by_cases h1 : rB l s = true
  · by_cases h2 : rB m t = true
    · rw [below_yes h1 h2, eq_below]
      have HM : ∀ w, Calls Tryz.prog 180 #[lab l s, lab m t] w fun e w' => e = .returned (lab (minV l m) (bits BinOp.and IntKind.i64 s t)) ∧ Below w.heap.size w w' := by
        intro w
        have := meet_impl l s m t w
        rw [meet_yes h1 h2] at this
        exact this
      generalize minV l m = p at *
      generalize bits BinOp.and IntKind.i64 s t = q at *
      unfold lab at *
      rcases two_ways (p == l) (q == s) with ⟨g1, g⟩ | ⟨⟨g1, g2⟩, g⟩ | ⟨⟨g1, g2⟩, g⟩
      all_goals
        rw [g]
        clear g
        go_enter Tryz.func144, Tryz.ntmps144
        go_wp2_with fail
        go_region_held3 (fun W => W.cell? ⟨w.heap.size, 0, none⟩ = some (.int .i64 l) ∧ W.cell? ⟨w.heap.size, 1, none⟩ = some (.int .i64 s) ∧ W.cell? ⟨w.heap.size + 1, 0, none⟩ = some (.int .i64 m) ∧ W.cell? ⟨w.heap.size + 1, 1, none⟩ = some (.int .i64 t) ∧ KS w (w.heap.size + 2) ([(w.heap.size, 0, .int .i64 l), (w.heap.size, 1, .int .i64 s), (w.heap.size + 1, 0, .int .i64 m), (w.heap.size + 1, 1, .int .i64 t)]) W)
          (exact ((fun (h : KS w (w.heap.size + 2) ([(w.heap.size, 0, .int .i64 l), (w.heap.size, 1, .int .i64 s), (w.heap.size + 1, 0, .int .i64 m), (w.heap.size + 1, 1, .int .i64 t)]) _) => ⟨h.at (by simp), h.at (by simp), h.at (by simp), h.at (by simp), h⟩) (by (repeat (first | assumption | exact inits w l s m t _ _ | refine KS.drew ?_ | refine KS.alloc ?_ _ | refine KS.set ?_ (by first | omega | (simp <;> omega)) _)))))
          (first | (go_at_call 96; refine (ri_w _ _ _).mono ?_; rintro e w1 ⟨rfl, hb⟩; have hL := KS.call (w := w) (base := w.heap.size + 2) (L := [(w.heap.size, 0, .int .i64 l), (w.heap.size, 1, .int .i64 s), (w.heap.size + 1, 0, .int .i64 m), (w.heap.size + 1, 1, .int .i64 t)]) (by (repeat (first | assumption | exact inits w l s m t _ _ | refine KS.drew ?_ | refine KS.alloc ?_ _ | refine KS.set ?_ (by first | omega | (simp <;> omega)) _))) hb; have hz := hL.size; have hs := hb.size; (try simp at hs); (try have hqC := join hqC hb); (try have hqC := join_alloc hqC hb); (try have hqC := join_drew hqC hb); (try have hqB := join hqB hb); (try have hqB := join_alloc hqB hb); (try have hqB := join_drew hqB hb); (try have hqA := join hqA hb); (try have hqA := join_alloc hqA hb); (try have hqA := join_drew hqA hb); (first | (have hqD' := hqC; have hqD := hb) | (have hqB' := hqB; have hqC := hb) | (have hqA' := hqA; have hqB := hb) | have hqA := hb); (try (have hrA := rules hqA; obtain ⟨hrA1, hrA2, hrA3, hrA4⟩ := hrA)); (try (have hrB := rules hqB; obtain ⟨hrB1, hrB2, hrB3, hrB4⟩ := hrB)); (try (have hrC := rules hqC; obtain ⟨hrC1, hrC2, hrC3, hrC4⟩ := hrC)); (try (have hrD := rules hqD; obtain ⟨hrD1, hrD2, hrD3, hrD4⟩ := hrD))) | (go_at_call 180; refine (HM _).mono ?_; rintro e w1 ⟨rfl, hb⟩; have hL := KS.call (w := w) (base := w.heap.size + 2) (L := [(w.heap.size, 0, .int .i64 l), (w.heap.size, 1, .int .i64 s), (w.heap.size + 1, 0, .int .i64 m), (w.heap.size + 1, 1, .int .i64 t)]) (by (repeat (first | assumption | exact inits w l s m t _ _ | refine KS.drew ?_ | refine KS.alloc ?_ _ | refine KS.set ?_ (by first | omega | (simp <;> omega)) _))) hb; have hz := hL.size; have hs := hb.size; (try simp at hs); (try have hqC := join hqC hb); (try have hqC := join_alloc hqC hb); (try have hqC := join_drew hqC hb); (try have hqB := join hqB hb); (try have hqB := join_alloc hqB hb); (try have hqB := join_drew hqB hb); (try have hqA := join hqA hb); (try have hqA := join_alloc hqA hb); (try have hqA := join_drew hqA hb); (first | (have hqD' := hqC; have hqD := hb) | (have hqB' := hqB; have hqC := hb) | (have hqA' := hqA; have hqB := hb) | have hqA := hb); (try (have hrA := rules hqA; obtain ⟨hrA1, hrA2, hrA3, hrA4⟩ := hrA)); (try (have hrB := rules hqB; obtain ⟨hrB1, hrB2, hrB3, hrB4⟩ := hrB)); (try (have hrC := rules hqC; obtain ⟨hrC1, hrC2, hrC3, hrC4⟩ := hrC)); (try (have hrD := rules hqD; obtain ⟨hrD1, hrD2, hrD3, hrD4⟩ := hrD))))
        go_wp2_with fail
        go_ret
        exact ⟨rfl, KS.below (base := w.heap.size + 2) (L := [(w.heap.size, 0, .int .i64 l), (w.heap.size, 1, .int .i64 s), (w.heap.size + 1, 0, .int .i64 m), (w.heap.size + 1, 1, .int .i64 t)]) (by (repeat (first | assumption | exact inits w l s m t _ _ | refine KS.drew ?_ | refine KS.alloc ?_ _ | refine KS.set ?_ (by first | omega | (simp <;> omega)) _)))⟩
    · have h2' : rB m t = false := by simpa using h2
      rw [below_no2 h2']
      clear h2
      unfold lab
      go_enter Tryz.func144, Tryz.ntmps144
      go_wp2_with fail
      go_region_with (first | (go_at_call 96; refine (right_impl _ _ _).mono ?_; unfold labO; rintro e w1 ⟨rfl, rfl⟩))
      all_goals go_wp2
      all_goals go_ret
      all_goals refine ⟨rfl, ?_⟩
      all_goals repeat (first | exact Below.refl _ _ | refine Below.setCell ?_ (by simp <;> omega) _ | refine Below.drew ?_ | refine Below.alloc ?_ (by simp <;> omega) _)
  · have h1' : rB l s = false := by simpa using h1
    rw [below_no1 h1']
    clear h1
    unfold lab
    go_enter Tryz.func144, Tryz.ntmps144
    go_wp2_with fail
    go_region_with (first | (go_at_call 96; refine (right_impl _ _ _).mono ?_; unfold labO; rintro e w1 ⟨rfl, rfl⟩))
    all_goals go_wp2
    all_goals go_ret
    all_goals refine ⟨rfl, ?_⟩
    all_goals repeat (first | exact Below.refl _ _ | refine Below.setCell ?_ (by simp <;> omega) _ | refine Below.drew ?_ | refine Below.alloc ?_ (by simp <;> omega) _)
end Go.Proofs.YtelhmacfljffhaaGreat.LabC
end
section
namespace Go.Proofs.YtelhmacfljffhaaGreat.RepC
open Go.RowKit RowC ValC
theorem eql_lab (y0 y1 x0 x1 : Int) (b : Bool) (hb : decide (((y0, y1) : Int × Int) = (x0, x1)) = b) : ∀ w, (binOp .eql 67 (.agg #[.int .i64 y0, .int .i64 y1]) (.agg #[.int .i64 x0, .int .i64 x1])).run Tryz.prog w = .ok (.bool b) w := by
  intro w
  subst hb
  go_simp
  repeat' split
  all_goals simp_all
theorem neq_lab (y0 y1 x0 x1 : Int) (b : Bool) (hb : decide (((y0, y1) : Int × Int) = (x0, x1)) = b) : ∀ w, (binOp .neq 67 (.agg #[.int .i64 y0, .int .i64 y1]) (.agg #[.int .i64 x0, .int .i64 x1])).run Tryz.prog w = .ok (.bool (!b)) w := by
  intro w
  subst hb
  go_simp
  repeat' split
  all_goals simp_all
theorem mem_cases {p : Prop} (b : Bool) (h : b = true ↔ p) : (b = true ∧ p) ∨ (b = false ∧ ¬ p) := by cases b <;> simp_all
end Go.Proofs.YtelhmacfljffhaaGreat.RepC
end
section
namespace Go.Proofs.YtelhmacfljffhaaGreat.RepC
open Go.RowKit RowC ValC SpanC KeptC NameC
set_option linter.unusedVariables false
set_option linter.unusedSimpArgs false
open Classical in
noncomputable def nameB (s : ByteArray) : Bool := decide (NameP s)
open Classical in
theorem nameB_iff {s : ByteArray} : nameB s = true ↔ NameP s := by unfold nameB; simp
theorem res_name {s : ByteArray} {w w' : World} {e : Ending} (h : NameC.Res (NameP s) w e w') : e = .returned (.bool (nameB s)) ∧ Below w.heap.size w w' := by
  obtain ⟨b, rfl, hb, rfl⟩ := h
  have : b = nameB s := by
    cases b <;> cases hn : nameB s
    · rfl
    · exact absurd (hb.2 (nameB_iff.1 hn)) (by decide)
    · exact absurd (nameB_iff.2 (hb.1 rfl)) (by rw [hn]; decide)
    · rfl
  exact ⟨by rw [this], Below.refl _ _⟩
theorem ns_w (s : ByteArray) (hs : s.size ≤ maxLen) (w : World) : Calls Tryz.prog 77 #[.string s] w fun e w' => e = .returned (.bool (nameB s)) ∧ Below w.heap.size w w' := (spec_any s w hs).mono fun _ _ h => res_name h
theorem ni_w (s : ByteArray) (hs : s.size ≤ maxLen) (w : World) : Calls Tryz.prog 97 #[.string s] w fun e w' => e = .returned (.bool (nameB s)) ∧ Below w.heap.size w w' := (impl_any s w hs).mono fun _ _ h => res_name h
theorem is_w (n lo hi : Int) (w : World) : Calls Tryz.prog 67 #[.int .i64 n, .int .i64 lo, .int .i64 hi] w fun e w' => e = .returned (.bool (isB n lo hi)) ∧ Below w.heap.size w w' := (is_spec n lo hi w).mono fun _ _ ⟨h1, h2⟩ => ⟨h1, by rw [h2]; exact Below.refl _ _⟩
theorem ur_w (n : Int) (w : World) : Calls Tryz.prog 98 #[.int .i64 n] w fun e w' => e = .returned (.bool (isB n 1 100000)) ∧ Below w.heap.size w w' := by
  go_enter Tryz.func98, Tryz.ntmps98
  go_wp2_with (go_at_call 90; refine (is_impl _ _ _ _).mono ?_; rintro e w' ⟨rfl, rfl⟩)
  go_ret
  exact ⟨rfl, Below.refl _ _⟩
theorem rB_bd {l s : Int} (h : LabC.rB l s = true) : 0 ≤ l ∧ l ≤ 3 ∧ 0 ≤ s ∧ s ≤ 7 := by simpa [LabC.rB_iff, LabC.rP] using h
theorem ord_w {l s : Int} (h : LabC.rB l s = true) (w : World) : Calls Tryz.prog 74 #[.agg #[.int .i64 l, .int .i64 s]] w fun e w' => e = .returned (.int .i64 (8 * l + s)) ∧ Below w.heap.size w w' := by
  obtain ⟨h1, h2, h3, h4⟩ := rB_bd h
  go_enter Tryz.func74, Tryz.ntmps74
  go_wp2
  go_ret
  exact ⟨rfl, (Below.refl _ _).alloc (Nat.le_refl _) _⟩
def lessB (x y : D_Use) : Bool := if decide (x.1 = y.1) = true then sLt x.2.1 y.2.1 else decide (8 * x.1.1 + x.1.2 < 8 * y.1.1 + y.1.2)
theorem lessB_iff {x y : D_Use} (hx : LabC.rB x.1.1 x.1.2 = true) (hy : LabC.rB y.1.1 y.1.2 = true) : lessB x y = true ↔ ltU x y := by
  obtain ⟨⟨a, b⟩, o, n⟩ := x
  obtain ⟨⟨c, d⟩, p, m⟩ := y
  have h1 := rB_bd hx
  have h2 := rB_bd hy
  unfold lessB ltU ltLb
  simp only at *
  split
  · rename_i h
    simp only [decide_eq_true_eq, Prod.mk.injEq] at h
    obtain ⟨rfl, rfl⟩ := h
    simp
  · rename_i h
    simp only [decide_eq_true_eq, Prod.mk.injEq] at h
    simp only [decide_eq_true_eq, Prod.mk.injEq]
    constructor
    · intro h3; left; omega
    · rintro (h3 | ⟨h3, _⟩) <;> omega
set_option maxRecDepth 100000 in
set_option maxHeartbeats 1600000 in
theorem less_w {x0 x1 x3 y0 y1 y3 : Int} {x2 y2 : ByteArray} (hx : LabC.rB x0 x1 = true) (hy : LabC.rB y0 y1 = true) (W : World) :
    Calls Tryz.prog 78 #[.agg #[.int .i64 x0, .int .i64 x1, .string x2, .int .i64 x3], .agg #[.int .i64 y0, .int .i64 y1, .string y2, .int .i64 y3]] W fun e w' => e = .returned (.bool (lessB ((x0, x1), x2, x3) ((y0, y1), y2, y3))) ∧ Below W.heap.size W w' := by
  obtain ⟨V0, hV0⟩ : ∃ V0, V0 = (W.alloc (.cells #[.int .i64 x0, .int .i64 x1, .string x2, .int .i64 x3] 76)).alloc (.cells #[.int .i64 y0, .int .i64 y1, .string y2, .int .i64 y3] 76) := ⟨_, rfl⟩
  have BA := Lib.hid (show Blk V0 W.heap.size 76 #[.int .i64 x0, .int .i64 x1, .string x2, .int .i64 x3] from by rw [hV0]; exact (Blk.new W _ _).alloc _)
  have BB := Lib.hid (show Blk V0 (W.heap.size + 1) 76 #[.int .i64 y0, .int .i64 y1, .string y2, .int .i64 y3] from by
    have h9 := Blk.new (W.alloc (.cells #[.int .i64 x0, .int .i64 x1, .string x2, .int .i64 x3] 76)) 76 #[.int .i64 y0, .int .i64 y1, .string y2, .int .i64 y3]
    simp only [World.size_alloc] at h9
    rw [hV0]; exact h9)
  have HB0 := Lib.hid (show Below W.heap.size W V0 from by rw [hV0]; exact ((Below.refl _ _).alloc (Nat.le_refl _) _).alloc (by simp) _)
  obtain ⟨b, hb⟩ : ∃ b, decide (((x0, x1) : Int × Int) = (y0, y1)) = b := ⟨_, rfl⟩
  have hn := neq_lab x0 x1 y0 y1 b hb
  cases b with
  | true =>
    have HE := Lib.hid (show lessB ((x0, x1), x2, x3) ((y0, y1), y2, y3) = sLt x2 y2 from by unfold lessB; rw [if_pos hb])
    clear hb
    rw [hV0] at HB0
    clear hV0 BA BB
    go_enter Tryz.func78, Tryz.ntmps78
    go_wp2
    go_ret
    exact ⟨by rw [HE.out]; rfl, HB0.out⟩
  | false =>
    have HE := Lib.hid (show lessB ((x0, x1), x2, x3) ((y0, y1), y2, y3) = decide (8 * x0 + x1 < 8 * y0 + y1) from by unfold lessB; rw [if_neg (by rw [hb]; decide)])
    clear hb
    have a0 := BA.out.at_ 0 rfl
    have a1 := BA.out.at_ 1 rfl
    have b0 := BB.out.at_ 0 rfl
    have b1 := BB.out.at_ 1 rfl
    rw [hV0] at a0 a1 b0 b1
    go_enter Tryz.func78, Tryz.ntmps78
    go_wp2_with fail
    rw [← hV0]
    clear hV0 a0 a1 b0 b1 hn
    refine wp_region_held_drew (S := (fun V => Below (V0).heap.size (V0) V)) (by kernel_rfl) ((Below.refl _ _).drew) (fun hHeld => ?_)
    refine tk 0 hHeld ?_
    refine tk 1 hHeld ?_ (hy := fun w hSw => by (try dsimp only at hSw); have k0 := (hSw.cell (p := ⟨W.heap.size, 0, none⟩) BA.out.lt).trans (BA.out.at_ 0 rfl); have k1 := (hSw.cell (p := ⟨W.heap.size, 1, none⟩) BA.out.lt).trans (BA.out.at_ 1 rfl); clear hSw; go_simp; try with_reducible rfl)
    refine tk 3 hHeld ?_
    refine tk 4 hHeld ?_ (hy := fun w hSw => by (try dsimp only at hSw); have k0 := (hSw.cell (p := ⟨W.heap.size + 1, 0, none⟩) BB.out.lt).trans (BB.out.at_ 0 rfl); have k1 := (hSw.cell (p := ⟨W.heap.size + 1, 1, none⟩) BB.out.lt).trans (BB.out.at_ 1 rfl); clear hSw; go_simp; try with_reducible rfl)
    refine rd1 2 (fun K hK => ?_)
    go_simp
    go_at_call 74
    refine (ord_w hx _).mono ?_
    rintro e w1 ⟨rfl, hb⟩
    refine hK.out _ _ (hHeld.trans (hb.mono hHeld.size)) (fun hHeld => ?_)
    clear hK K hb
    refine rd1 5 (fun K hK => ?_)
    go_simp
    go_at_call 74
    refine (ord_w hy _).mono ?_
    rintro e w2 ⟨rfl, hb⟩
    refine hK.out _ _ (hHeld.trans (hb.mono hHeld.size)) (fun hHeld => ?_)
    clear hK K hb
    refine tk 6 hHeld ?_
    refine tk 7 hHeld ?_
    refine rd0 ?_
    have HF := Lib.hid hHeld
    clear hHeld
    have HB1 := Lib.hid (HB0.out.trans (HF.out.mono HB0.out.size))
    go_wp2
    go_ret
    exact ⟨by rw [HE.out]; rfl, HB1.out⟩
end Go.Proofs.YtelhmacfljffhaaGreat.RepC
end
section
namespace Go.Proofs.YtelhmacfljffhaaGreat.SpanC
open Go.RowKit KeptC
def zeros (n : Nat) : Array Value := madeCells #[.int .i64 0, .int .i64 0] (n * 2)
structure Fill (w : World) (n : Nat) (f : Nat → Int × Int) (k : Nat) (W : World) : Prop where
  cells : ∀ j, j < n → ∃ u v, W.cell? ⟨w.heap.size, j * 2, none⟩ = some u ∧ W.cell? ⟨w.heap.size, j * 2 + 1, none⟩ = some v ∧ (j < k → u = .int .i64 (f j).1 ∧ v = .int .i64 (f j).2)
  soft : ∀ j, W.frozen? ⟨w.heap.size, j, none⟩ = false
  below : Below w.heap.size w W
  lt : w.heap.size < W.heap.size
theorem Fill.call {w W W1 : World} {n k : Nat} {f : Nat → Int × Int} (h : Fill w n f k W) (hb : Below W.heap.size W W1) : Fill w n f k W1 := by
  refine ⟨fun j hj => ?_, fun j => (hb.frozen (p := ⟨w.heap.size, j, none⟩) h.lt).trans (h.soft j), h.below.trans (hb.mono (Nat.le_of_lt h.lt)), Nat.lt_of_lt_of_le h.lt hb.size⟩
  obtain ⟨u, v, hu, hv, hk⟩ := h.cells j hj
  exact ⟨u, v, (hb.cell (p := ⟨w.heap.size, j * 2, none⟩) h.lt).trans hu, (hb.cell (p := ⟨w.heap.size, j * 2 + 1, none⟩) h.lt).trans hv, hk⟩
theorem Fill.put {w W : World} {n k : Nat} {f : Nat → Int × Int} (h : Fill w n f k W) (hk : k < n) :
    Fill w n f (k + 1) ((W.setCell ⟨w.heap.size, k * 2, none⟩ (.int .i64 (f k).1)).setCell ⟨w.heap.size, k * 2 + 1, none⟩ (.int .i64 (f k).2)) := by
  have ne : ∀ a b : Nat, a ≠ b → (⟨w.heap.size, a, none⟩ : Addr) ≠ ⟨w.heap.size, b, none⟩ := fun a b hab e => hab (by injection e)
  obtain ⟨u0, v0, hu0, hv0, _⟩ := h.cells k hk
  refine ⟨fun j hj => ?_, fun j => by simpa using h.soft j, (h.below.setCell (Nat.le_refl _) _).setCell (Nat.le_refl _) _, by simpa using h.lt⟩
  by_cases e : j = k
  · subst e
    refine ⟨.int .i64 (f j).1, .int .i64 (f j).2, ?_, ?_, fun _ => ⟨rfl, rfl⟩⟩
    · rw [World.cell?_setCell_other _ _ _ _ (ne _ _ (by omega)), World.cell?_setCell_same' _ _ _ (by rw [hu0]; rfl)]
    · rw [World.cell?_setCell_same' _ _ _ (by rw [World.cell?_setCell_other _ _ _ _ (ne _ _ (by omega)), hv0]; rfl)]
  · obtain ⟨u, v, hu, hv, hlt⟩ := h.cells j hj
    refine ⟨u, v, ?_, ?_, fun hj' => hlt (by omega)⟩
    · rw [World.cell?_setCell_other _ _ _ _ (ne _ _ (by omega)), World.cell?_setCell_other _ _ _ _ (ne _ _ (by omega))]; exact hu
    · rw [World.cell?_setCell_other _ _ _ _ (ne _ _ (by omega)), World.cell?_setCell_other _ _ _ _ (ne _ _ (by omega))]; exact hv
theorem zeros_size (n : Nat) : (zeros n).size = n * 2 := by unfold zeros; simp [madeCells]
theorem Fill.new (w : World) (n : Nat) (f : Nat → Int × Int) : Fill w n f 0 (w.alloc (.cells (zeros n) 172)) := by
  refine ⟨fun j hj => ?_, fun j => by simp, (Below.refl _ _).alloc (Nat.le_refl _) _, by simp⟩
  have hz := zeros_size n
  refine ⟨(zeros n)[j * 2]'(by omega), (zeros n)[j * 2 + 1]'(by omega), ?_, ?_, fun h => absurd h (Nat.not_lt_zero _)⟩
  · simp [World.cell?_alloc_new, show j * 2 < (zeros n).size by omega]
  · simp [World.cell?_alloc_new, show j * 2 + 1 < (zeros n).size by omega]
def PRow (w : World) (b o n : Nat) (f : Nat → Int × Int) : Prop := ∀ i, i < n → w.cell? ⟨b, o + i * 2, none⟩ = some (.int .i64 (f i).1) ∧ w.cell? ⟨b, o + i * 2 + 1, none⟩ = some (.int .i64 (f i).2)
theorem PRow.below {w W : World} {b o n B : Nat} {f : Nat → Int × Int} (h : PRow w b o n f) (hb : Below B w W) (hB : b < B) : PRow W b o n f := fun i hi =>
  ⟨(hb.cell (p := ⟨b, o + i * 2, none⟩) hB).trans (h i hi).1, (hb.cell (p := ⟨b, o + i * 2 + 1, none⟩) hB).trans (h i hi).2⟩
theorem Fill.row {w W : World} {n : Nat} {f : Nat → Int × Int} (h : Fill w n f n W) : PRow W w.heap.size 0 n f := fun i hi => by
  obtain ⟨u, v, hu, hv, he⟩ := h.cells i hi
  obtain ⟨rfl, rfl⟩ := he hi
  exact ⟨by simpa using hu, by simpa using hv⟩
end Go.Proofs.YtelhmacfljffhaaGreat.SpanC
end
section
namespace Go.Proofs.YtelhmacfljffhaaGreat.SpanC
open Go.RowKit KeptC
def okS (f : Nat → Int × Int) (i : Nat) : Prop := spB (f i).1 (f i).2 = true ∧ (0 < i → (f (i - 1)).2 ≤ (f i).1)
def SpR (n : Nat) (f : Nat → Int × Int) : Prop := n ≤ 20 ∧ ∀ i, i < n → okS f i
end Go.Proofs.YtelhmacfljffhaaGreat.SpanC
end
section
namespace Go.Proofs.YtelhmacfljffhaaGreat.RepC
open Go.RowKit RowC ValC SpanC KeptC
set_option linter.unusedVariables false
set_option linter.unusedSimpArgs false
def okN (L : List Int) (i : Nat) : Prop := ∀ x, L[i]? = some x → isB x 0 5 = true ∧ (0 < i → ∀ y, L[i - 1]? = some y → y < x)
def NodesR (L : List Int) : Prop := ∀ i, i < L.length → okN L i
theorem is_below (n lo hi : Int) {b : Bool} (hb : isB n lo hi = b) (w : World) :
    Calls Tryz.prog 67 #[.int .i64 n, .int .i64 lo, .int .i64 hi] w fun e w' => e = .returned (.bool b) ∧ Below w.heap.size w w' := by
  subst hb
  exact (is_spec n lo hi w).mono fun _ _ ⟨h1, h2⟩ => ⟨h1, h2 ▸ Below.refl _ _⟩
set_option maxRecDepth 100000 in
set_option maxHeartbeats 3200000 in
theorem nodes_spec {L : List Int} {a : Option Addr} {cap : Nat} {W : World} (h : RdSl I W W.heap.size L a cap) :
    Calls Tryz.prog 135 #[.slice a L.length cap] W (ResB (NodesR L) W) := by
  have hn : L.length ≤ 9223372036854775807 := by have h1 := h.1; have h2 := h.2.1; unfold maxLen at h2; omega
  have H := Lib.hid h
  clear h
  go_enter Tryz.func135, Tryz.ntmps135
  go_wp2
  go_loopw [3] (fun i wr => ∃ k : Nat, k ≤ L.length ∧ i = .int .i64 k ∧ (∀ j, j < k → okN L j) ∧ Below W.heap.size W wr) (fun i _ => L.length - (intOf i).toNat)
  case atStart => exact ⟨0, Nat.zero_le _, rfl, fun j h => absurd h (Nat.not_lt_zero _), Below.refl _ _⟩
  case round =>
    obtain ⟨k, hk, rfl, hall, hB⟩ := hrel
    have HA := Lib.hid hall
    have HB := Lib.hid hB
    have hsz := hB.size
    clear hall
    by_cases hlt : k < L.length
    · obtain ⟨x, hx⟩ := el_some hlt
      have HX := Lib.hid hx
      obtain ⟨g, o, us, rfl, hg, hu, hr⟩ := (H.out.below I_ok hB).at_ hx
      obtain rfl : us = [_] := hr
      have hc0 : wr.cell? ⟨g, o + k, none⟩ = some (.int .i64 x) := by simpa [show I.size = 1 from rfl] using hu 0 _ rfl
      have hgl : g < wr.heap.size := Nat.lt_of_lt_of_le hg hsz
      have hi0 : (0 : Int) ≤ (k : Int) := Int.natCast_nonneg _
      have hi1 : (k : Int) < (L.length : Int) := by omega
      clear hB hx hu
      cases hr : isB x 0 5 with
      | false =>
        have Hno := Lib.hid (show ¬ NodesR L from fun h => by have := (h k hlt x HX.out).1; rw [hr] at this; cases this)
        have hrs := fun W => is_below x 0 5 hr W
        clear hr
        go_wp2_with fail
        refine wp_region_held_drew (S := (fun V => V.cell? ⟨g, o + k, none⟩ = some (.int .i64 x) ∧ wr.heap.size ≤ V.heap.size ∧ Below (W.heap.size) (W) V)) (by kernel_rfl) (⟨hc0, Nat.le_refl _, HB.out.drew⟩) (fun hHeld => ?_)
        refine tk 0 hHeld ?_
        refine tk 1 hHeld ?_
        refine tk 2 hHeld ?_
        refine tk 3 hHeld ?_
        refine rd1 4 (fun K hK => ?_)
        go_simp
        go_at_call 67; refine (hrs _).mono ?_; rintro e w1 ⟨rfl, hb⟩
        refine hK.out _ _ (⟨(hb.cell (p := ⟨g, o + k, none⟩) (Nat.lt_of_lt_of_le hgl hHeld.2.1)).trans hHeld.1, Nat.le_trans hHeld.2.1 hb.size, hHeld.2.2.trans (hb.mono (Nat.le_trans hsz hHeld.2.1))⟩) (fun hHeld => ?_)
        clear hK K
        refine tk 5 hHeld ?_
        refine tk 6 hHeld ?_
        refine tn 7 hHeld ?_
        refine tn 8 hHeld ?_
        refine tn 9 hHeld ?_
        refine tn 10 hHeld ?_
        refine tn 11 hHeld ?_
        refine tn 12 hHeld ?_
        refine tn 13 hHeld ?_
        refine tn 14 hHeld ?_
        refine tn 15 hHeld ?_
        refine tn 16 hHeld ?_
        refine tn 17 hHeld ?_
        refine tn 18 hHeld ?_
        refine tn 19 hHeld ?_
        refine tn 20 hHeld ?_
        refine tk 21 hHeld ?_
        refine rd0 ?_
        have HF := Lib.hid hHeld.2.2
        clear hHeld
        go_wp2
        go_ret
        exact resB_no Hno.out HF.out
      | true =>
        have hrs := fun W => is_below x 0 5 hr W
        have Hr := Lib.hid hr
        clear hr
        rcases Nat.eq_zero_or_pos k with hk0 | hk0
        · subst hk0
          have hc0' : wr.cell? ⟨g, o, none⟩ = some (.int .i64 x) := hc0
          clear hc0
          have HOK := Lib.hid (all_step HA.out (show okN L 0 from fun y hy => by have := HX.out; rw [hy] at this; obtain rfl := Option.some.inj this; exact ⟨Hr.out, fun h => absurd h (Nat.lt_irrefl _)⟩))
          go_wp2_with fail
          refine wp_region_held_drew (S := (fun V => V.cell? ⟨g, o, none⟩ = some (.int .i64 x) ∧ wr.heap.size ≤ V.heap.size ∧ Below (W.heap.size) (W) V)) (by kernel_rfl) (⟨hc0', Nat.le_refl _, HB.out.drew⟩) (fun hHeld => ?_)
          refine tk 0 hHeld ?_
          refine tk 1 hHeld ?_
          refine tk 2 hHeld ?_
          refine tk 3 hHeld ?_
          refine rd1 4 (fun K hK => ?_)
          go_simp
          go_at_call 67; refine (hrs _).mono ?_; rintro e w1 ⟨rfl, hb⟩
          refine hK.out _ _ (⟨(hb.cell (p := ⟨g, o, none⟩) (Nat.lt_of_lt_of_le hgl hHeld.2.1)).trans hHeld.1, Nat.le_trans hHeld.2.1 hb.size, hHeld.2.2.trans (hb.mono (Nat.le_trans hsz hHeld.2.1))⟩) (fun hHeld => ?_)
          clear hK K
          refine tk 5 hHeld ?_
          refine tk 6 hHeld ?_
          refine tk 7 hHeld ?_
          refine tk 8 hHeld ?_
          refine tk 9 hHeld ?_
          refine tn 10 hHeld ?_
          refine tn 11 hHeld ?_
          refine tn 12 hHeld ?_
          refine tn 13 hHeld ?_
          refine tn 14 hHeld ?_
          refine tn 15 hHeld ?_
          refine tn 16 hHeld ?_
          refine tn 17 hHeld ?_
          refine tn 18 hHeld ?_
          refine tn 19 hHeld ?_
          refine tk 20 hHeld ?_
          refine tk 21 hHeld ?_
          refine rd0 ?_
          have HF := Lib.hid hHeld.2.2
          clear hHeld
          go_wp2
          go_roundw
          case rel => exact ⟨1, by omega, by go_num, HOK.out, HF.out⟩
          case measure => simp [intOf]; omega
        · obtain ⟨j, rfl⟩ : ∃ j, k = j + 1 := ⟨k - 1, by omega⟩
          obtain ⟨y, hy⟩ := el_some (L := L) (k := j) (by omega)
          have HY := Lib.hid hy
          obtain ⟨g2, o2, us, he, hg2, hu, hr⟩ := (H.out.below I_ok HB.out).at_ hy
          cases he
          obtain rfl : us = [_] := hr
          have hd0 : wr.cell? ⟨g, o + j, none⟩ = some (.int .i64 y) := by simpa [show I.size = 1 from rfl] using hu 0 _ rfl
          have hj0 : (0 : Int) ≤ (j : Int) := Int.natCast_nonneg _
          have hj1 : (j : Int) < (L.length : Int) := by omega
          have hjw2 : IntKind.i64.wrap (j : Int) = (j : Int) := IntWalk.i64_in _ (by omega)
          have hi0p : (0 : Int) ≤ (j : Int) + 1 := by omega
          have hi1p : (j : Int) + 1 < (L.length : Int) := by omega
          have hjw : IntKind.i64.wrap ((j : Int) + 1 - 1) = (j : Int) := (by rw [show (j : Int) + 1 - 1 = (j : Int) by omega]; exact IntWalk.i64_in _ (by omega))
          have hjp : decide ((0 : Int) < (j : Int) + 1) = true := decide_eq_true (by omega)
          clear hy hu hg2
          by_cases hlo : x ≤ y
          · have Hno := Lib.hid (show ¬ NodesR L from fun h => by have h2 := (h (j + 1) hlt x HX.out).2 (Nat.succ_pos _) y HY.out; omega)
            have hlo' : decide (x ≤ y) = true := decide_eq_true hlo
            go_wp2_with fail
            refine wp_region_held_drew (S := (fun V => V.cell? ⟨g, o + j, none⟩ = some (.int .i64 y) ∧ V.cell? ⟨g, o + (j + 1), none⟩ = some (.int .i64 x) ∧ wr.heap.size ≤ V.heap.size ∧ Below (W.heap.size) (W) V)) (by kernel_rfl) (⟨hd0, hc0, Nat.le_refl _, HB.out.drew⟩) (fun hHeld => ?_)
            refine tk 0 hHeld ?_
            refine tk 1 hHeld ?_
            refine tk 2 hHeld ?_
            refine tk 3 hHeld ?_
            refine rd1 4 (fun K hK => ?_)
            go_simp
            go_at_call 67; refine (hrs _).mono ?_; rintro e w1 ⟨rfl, hb⟩
            refine hK.out _ _ (⟨(hb.cell (p := ⟨g, o + j, none⟩) (Nat.lt_of_lt_of_le hgl hHeld.2.2.1)).trans hHeld.1, (hb.cell (p := ⟨g, o + (j + 1), none⟩) (Nat.lt_of_lt_of_le hgl hHeld.2.2.1)).trans hHeld.2.1, Nat.le_trans hHeld.2.2.1 hb.size, hHeld.2.2.2.trans (hb.mono (Nat.le_trans hsz hHeld.2.2.1))⟩) (fun hHeld => ?_)
            clear hK K
            refine tk 5 hHeld ?_
            refine tk 6 hHeld ?_
            refine tk 7 hHeld ?_
            refine tk 8 hHeld ?_
            refine tk 9 hHeld ?_
            refine tk 10 hHeld ?_
            refine tk 11 hHeld ?_
            refine tk 12 hHeld ?_
            refine tk 13 hHeld ?_
            refine tk 14 hHeld ?_
            refine tk 15 hHeld ?_
            refine tk 16 hHeld ?_
            refine tk 17 hHeld ?_
            refine tk 18 hHeld ?_
            refine tk 19 hHeld ?_
            refine tk 20 hHeld ?_
            refine tk 21 hHeld ?_
            refine rd0 ?_
            have HF := Lib.hid hHeld.2.2.2
            clear hHeld
            go_wp2
            go_ret
            exact resB_no Hno.out HF.out
          · have HOK := Lib.hid (all_step HA.out (show okN L (j + 1) from fun z hz => by
              have := HX.out; rw [hz] at this; obtain rfl := Option.some.inj this
              exact ⟨Hr.out, fun _ u hu => by have h3 := HY.out; rw [Nat.add_sub_cancel] at hu; rw [hu] at h3; obtain rfl := Option.some.inj h3; omega⟩))
            have hlo' : decide (x ≤ y) = false := decide_eq_false hlo
            go_wp2_with fail
            refine wp_region_held_drew (S := (fun V => V.cell? ⟨g, o + j, none⟩ = some (.int .i64 y) ∧ V.cell? ⟨g, o + (j + 1), none⟩ = some (.int .i64 x) ∧ wr.heap.size ≤ V.heap.size ∧ Below (W.heap.size) (W) V)) (by kernel_rfl) (⟨hd0, hc0, Nat.le_refl _, HB.out.drew⟩) (fun hHeld => ?_)
            refine tk 0 hHeld ?_
            refine tk 1 hHeld ?_
            refine tk 2 hHeld ?_
            refine tk 3 hHeld ?_
            refine rd1 4 (fun K hK => ?_)
            go_simp
            go_at_call 67; refine (hrs _).mono ?_; rintro e w1 ⟨rfl, hb⟩
            refine hK.out _ _ (⟨(hb.cell (p := ⟨g, o + j, none⟩) (Nat.lt_of_lt_of_le hgl hHeld.2.2.1)).trans hHeld.1, (hb.cell (p := ⟨g, o + (j + 1), none⟩) (Nat.lt_of_lt_of_le hgl hHeld.2.2.1)).trans hHeld.2.1, Nat.le_trans hHeld.2.2.1 hb.size, hHeld.2.2.2.trans (hb.mono (Nat.le_trans hsz hHeld.2.2.1))⟩) (fun hHeld => ?_)
            clear hK K
            refine tk 5 hHeld ?_
            refine tk 6 hHeld ?_
            refine tk 7 hHeld ?_
            refine tk 8 hHeld ?_
            refine tk 9 hHeld ?_
            refine tk 10 hHeld ?_
            refine tk 11 hHeld ?_
            refine tk 12 hHeld ?_
            refine tk 13 hHeld ?_
            refine tk 14 hHeld ?_
            refine tk 15 hHeld ?_
            refine tk 16 hHeld ?_
            refine tk 17 hHeld ?_
            refine tk 18 hHeld ?_
            refine tk 19 hHeld ?_
            refine tk 20 hHeld ?_
            refine tk 21 hHeld ?_
            refine rd0 ?_
            have HF := Lib.hid hHeld.2.2.2
            clear hHeld
            go_wp2
            go_roundw
            case rel => exact ⟨j + 2, by omega, by go_num, HOK.out, HF.out⟩
            case measure => simp [intOf]; omega
    · have Hy := Lib.hid (show NodesR L from fun i hi => HA.out i (by omega))
      clear hB
      go_wp2
      go_ret
      exact resB_yes Hy.out HB.out
end Go.Proofs.YtelhmacfljffhaaGreat.RepC
end
section
namespace Go.Proofs.YtelhmacfljffhaaGreat.RepC
open Go.RowKit RowC ValC SpanC KeptC NameC
set_option linter.unusedVariables false
set_option linter.unusedSimpArgs false
def PlR (need start : Int) (L : List Int) : Prop := isB start 0 1000000 = true ∧ (L.length : Int) = need ∧ NodesR L
def NoP (start : Int) (L : List Int) : Prop := start = 0 ∧ L.length = 0
def DepR (l s id ul us after : Int) : Prop := (after = 0 → ul = 0 ∧ us = 0) ∧ (after ≠ 0 → isB after 1 12 = true ∧ LabC.belowB ul us l s = true ∧ ¬ ((ul = l ∧ us = s) ∧ id ≤ after))
def Has (st : Int) (L : List Int) : Prop := st = 2 ∨ (st = 1 ∧ 0 < L.length)
def TaskR : D_Task → Prop
  | ((l, s), id, ow, need, long, prio, (ul, us), after, born, st, start, L) => LabC.rB l s = true ∧ isB id 1 12 = true ∧ nameB ow = true ∧ isB need 1 6 = true ∧ isB long 1 20 = true ∧ isB prio 0 9 = true ∧ isB born 0 999900 = true ∧ isB st 1 6 = true ∧ DepR l s id ul us after ∧ (Has st L → PlR need start L) ∧ (¬ Has st L → NoP start L)
open Classical in
noncomputable def taskB (x : D_Task) : Bool := decide (TaskR x)
open Classical in
theorem taskB_iff {x : D_Task} : taskB x = true ↔ TaskR x := by unfold taskB; simp
abbrev tLab (x : D_Task) : D_Label := x.1
abbrev tId (x : D_Task) : Int := x.2.1
abbrev tNeed (x : D_Task) : Int := x.2.2.2.1
abbrev tLong (x : D_Task) : Int := x.2.2.2.2.1
abbrev tUnder (x : D_Task) : D_Label := x.2.2.2.2.2.2.1
abbrev tAfter (x : D_Task) : Int := x.2.2.2.2.2.2.2.1
abbrev tBorn (x : D_Task) : Int := x.2.2.2.2.2.2.2.2.1
abbrev tState (x : D_Task) : Int := x.2.2.2.2.2.2.2.2.2.1
abbrev tStart (x : D_Task) : Int := x.2.2.2.2.2.2.2.2.2.2.1
abbrev tNodes (x : D_Task) : List Int := x.2.2.2.2.2.2.2.2.2.2.2
abbrev tKey (x : D_Task) : D_Label × Int := (x.1, x.2.1)
theorem TaskR.lab {x : D_Task} (h : TaskR x) : LabC.rB (tLab x).1 (tLab x).2 = true := h.1
theorem TaskR.id {x : D_Task} (h : TaskR x) : 1 ≤ tId x ∧ tId x ≤ 12 := (isB_iff _ _ _).1 h.2.1
def ltK (a b : D_Label × Int) : Prop := ltLb a.1 b.1 ∨ (a.1 = b.1 ∧ a.2 < b.2)
theorem ltK_trans {a b c : D_Label × Int} (h1 : ltK a b) (h2 : ltK b c) : ltK a c := by
  obtain ⟨⟨a0, a1⟩, a2⟩ := a; obtain ⟨⟨b0, b1⟩, b2⟩ := b; obtain ⟨⟨c0, c1⟩, c2⟩ := c
  unfold ltK ltLb at *
  simp only [Prod.mk.injEq] at *
  omega
theorem ltK_irrefl {a : D_Label × Int} : ¬ ltK a a := by
  obtain ⟨⟨a0, a1⟩, a2⟩ := a
  unfold ltK ltLb
  simp only [Prod.mk.injEq]
  omega
def IncT (L : List D_Task) (n : Nat) : Prop := ∀ i j x y, i < j → j < n → L[i]? = some x → L[j]? = some y → ltK (tKey x) (tKey y)
theorem IncT.zero {L : List D_Task} : IncT L 0 := fun i j x y _ h => absurd h (Nat.not_lt_zero _)
theorem IncT.step {L : List D_Task} {n : Nat} {x : D_Task} (h : IncT L n) (hx : L[n]? = some x) (hl : ∀ y, 0 < n → L[n - 1]? = some y → ltK (tKey y) (tKey x)) : IncT L (n + 1) := by
  intro i j u v hij hj hu hv
  by_cases e : j = n
  · subst e
    rw [hx] at hv; cases hv
    have hj : j < L.length := (List.getElem?_eq_some_iff.1 hx).1
    obtain ⟨y, hy⟩ : ∃ y, L[j - 1]? = some y := ⟨L[j - 1], List.getElem?_eq_getElem (by omega)⟩
    have h1 := hl y (by omega) hy
    by_cases e2 : i = j - 1
    · subst e2; rw [hu] at hy; cases hy; exact h1
    · exact ltK_trans (h i (j - 1) u y (by omega) (by omega) hu hy) h1
  · exact h i j u v hij (by omega) hu hv
theorem IncT.take {L : List D_Task} {n m : Nat} (h : IncT L n) (hm : m ≤ n) (hL : m ≤ L.length) : IncT (L.take m) (L.take m).length := by
  intro i j x y hij hj hx hy
  rw [List.length_take, Nat.min_eq_left hL] at hj
  rw [List.getElem?_take, if_pos (by omega)] at hx hy
  exact h i j x y hij (by omega) hx hy
def atT (L : List D_Task) (a : D_Label × Int) : Int := match L.findIdx? (fun x => decide (tKey x = a)) with
  | some i => (i : Int)
  | none => -1
theorem atT_hit {L : List D_Task} {a : D_Label × Int} {k : Nat} {x : D_Task} (h : ∀ i y, i < k → L[i]? = some y → tKey y ≠ a) (hx : L[k]? = some x) (hk : tKey x = a) : atT L a = (k : Int) := by
  have hkl := (List.getElem?_eq_some_iff.1 hx).1
  have : L.findIdx? (fun x => decide (tKey x = a)) = some k := by
    rw [List.findIdx?_eq_some_iff_getElem]
    refine ⟨hkl, ?_, fun j hj => ?_⟩
    · have := (List.getElem?_eq_some_iff.1 hx).2
      rw [this]; simpa using hk
    · have h1 := h j _ hj (List.getElem?_eq_getElem (Nat.lt_trans hj hkl))
      simpa using h1
  unfold atT
  rw [this]
theorem atT_miss {L : List D_Task} {a : D_Label × Int} (h : ∀ i y, i < L.length → L[i]? = some y → tKey y ≠ a) : atT L a = -1 := by
  have : L.findIdx? (fun x => decide (tKey x = a)) = none := by
    rw [List.findIdx?_eq_none_iff]
    intro x hx
    obtain ⟨i, hi, rfl⟩ := List.mem_iff_getElem.1 hx
    have := h i _ hi (List.getElem?_eq_getElem hi)
    simpa using this
  unfold atT
  rw [this]
def NextT (y x : D_Task) : Prop := (tLab y = tLab x ∧ tId x = tId y + 1) ∨ (ltLb (tLab y) (tLab x) ∧ tId x = 1)
def okT (L : List D_Task) (i : Nat) (x : D_Task) : Prop := TaskR x ∧ (i = 0 → tId x = 1) ∧ (∀ y, 0 < i → L[i - 1]? = some y → NextT y x) ∧ (tAfter x ≠ 0 → 0 ≤ atT (L.take i) (tUnder x, tAfter x))
def tasTo (L : List D_Task) (k : Nat) : Prop := ∀ i x, i < k → L[i]? = some x → okT L i x
def TasksR (L : List D_Task) : Prop := L.length ≤ 96 ∧ ∀ i x, L[i]? = some x → okT L i x
open Classical in
noncomputable def tasksB (L : List D_Task) : Bool := decide (TasksR L)
open Classical in
theorem tasksB_iff {L : List D_Task} : tasksB L = true ↔ TasksR L := by unfold tasksB; simp
theorem tasTo_zero {L : List D_Task} : tasTo L 0 := fun i x h => absurd h (Nat.not_lt_zero _)
theorem tasTo_step {L : List D_Task} {k : Nat} {x : D_Task} (h : tasTo L k) (hx : L[k]? = some x) (hk : okT L k x) : tasTo L (k + 1) := fun i y hi hy => by
  rcases Nat.lt_succ_iff_lt_or_eq.1 hi with h1 | h1
  · exact h i y h1 hy
  · subst h1; rw [hx] at hy; cases hy; exact hk
theorem tasksR_all {L : List D_Task} (h1 : L.length ≤ 96) (h : tasTo L L.length) : TasksR L := ⟨h1, fun i x hx => h i x (List.getElem?_eq_some_iff.1 hx).1 hx⟩
theorem not_tasks {L : List D_Task} {k : Nat} {x : D_Task} (hx : L[k]? = some x) (h : ¬ okT L k x) : ¬ TasksR L := fun hr => h (hr.2 k x hx)
theorem nextT_lt {y x : D_Task} (h : NextT y x) : ltK (tKey y) (tKey x) := by
  rcases h with ⟨h1, h2⟩ | ⟨h1, h2⟩
  · exact .inr ⟨h1, by show tId y < tId x; omega⟩
  · exact .inl h1
theorem tasTo_inc {L : List D_Task} : ∀ {k : Nat}, tasTo L k → k ≤ L.length → IncT L k
  | 0, _, _ => IncT.zero
  | k + 1, h, hk => by
    obtain ⟨x, hx⟩ : ∃ x, L[k]? = some x := ⟨L[k], List.getElem?_eq_getElem (by omega)⟩
    exact (tasTo_inc (fun i x hi hx => h i x (by omega) hx) (by omega)).step hx fun y h0 hy => nextT_lt ((h k x (by omega) hx).2.2.1 y h0 hy)
end Go.Proofs.YtelhmacfljffhaaGreat.RepC
end
section
namespace Go.Proofs.YtelhmacfljffhaaGreat.RepC
open Go.RowKit RowC ValC SpanC KeptC NameC
set_option linter.unusedVariables false
set_option linter.unusedSimpArgs false
theorem isS_at (n lo hi : Int) {b : Bool} (hb : isB n lo hi = b) (w : World) :
    Calls Tryz.prog 67 #[.int .i64 n, .int .i64 lo, .int .i64 hi] w fun e w' => e = .returned (.bool b) ∧ w = w' := by
  subst hb
  exact is_spec n lo hi w
theorem timeS_at (n : Int) {b : Bool} (hb : isB n 0 1000000 = b) (w : World) :
    Calls Tryz.prog 134 #[.int .i64 n] w fun e w' => e = .returned (.bool b) ∧ w = w' := by
  subst hb
  exact time_spec n w
theorem nowS_at (n : Int) {b : Bool} (hb : isB n 0 999900 = b) (w : World) :
    Calls Tryz.prog 22 #[.int .i64 n] w fun e w' => e = .returned (.bool b) ∧ w = w' := by
  subst hb
  go_enter Tryz.func22, Tryz.ntmps22
  go_wp2_with (go_at_call 67; refine (is_spec _ _ _ _).mono ?_; rintro e w' ⟨rfl, rfl⟩)
  go_ret
  exact ⟨rfl, rfl⟩
theorem res_nameX {s : ByteArray} {w w' : World} {e : Ending} (h : NameC.Res (NameP s) w e w') : e = .returned (.bool (nameB s)) ∧ w = w' := by
  obtain ⟨b, rfl, hb, rfl⟩ := h
  have : b = nameB s := by
    cases b <;> cases hn : nameB s
    · rfl
    · exact absurd (hb.2 (nameB_iff.1 hn)) (by decide)
    · exact absurd (nameB_iff.2 (hb.1 rfl)) (by rw [hn]; decide)
    · rfl
  exact ⟨by rw [this], rfl⟩
theorem nameS_at {s : ByteArray} {b : Bool} (hs : s.size ≤ maxLen) (hb : nameB s = b) (w : World) : Calls Tryz.prog 77 #[.string s] w fun e w' => e = .returned (.bool b) ∧ w = w' := by
  subst hb
  exact (spec_any s w hs).mono fun _ _ h => res_nameX h
theorem nameI_at {s : ByteArray} {b : Bool} (hs : s.size ≤ maxLen) (hb : nameB s = b) (w : World) : Calls Tryz.prog 97 #[.string s] w fun e w' => e = .returned (.bool b) ∧ w = w' := by
  subst hb
  exact (impl_any s w hs).mono fun _ _ h => res_nameX h
theorem labS_at (l s : Int) {b : Bool} (hb : LabC.rB l s = b) (w : World) :
    Calls Tryz.prog 76 #[.agg #[.int .i64 l, .int .i64 s]] w fun e w' => e = .returned (.bool b) ∧ Below w.heap.size w w' := by
  subst hb
  exact (LabC.right_spec l s w).mono fun _ _ ⟨h1, h2⟩ => ⟨h1, by rw [← h2]; exact (Below.refl _ _).alloc (Nat.le_refl _) _⟩
theorem belS_at (l s m t : Int) {b : Bool} (hb : LabC.belowB l s m t = b) (w : World) :
    Calls Tryz.prog 133 #[.agg #[.int .i64 l, .int .i64 s], .agg #[.int .i64 m, .int .i64 t]] w fun e w' => e = .returned (.bool b) ∧ Below w.heap.size w w' := by
  subst hb
  exact LabC.below_spec l s m t w
theorem belI_at (l s m t : Int) {b : Bool} (hb : LabC.belowB l s m t = b) (w : World) :
    Calls Tryz.prog 144 #[.agg #[.int .i64 l, .int .i64 s], .agg #[.int .i64 m, .int .i64 t]] w fun e w' => e = .returned (.bool b) ∧ Below w.heap.size w w' := by
  subst hb
  exact LabC.below_impl l s m t w
set_option maxRecDepth 100000 in
set_option maxHeartbeats 6400000 in
theorem taskP_spec {x0 x1 x2 : Int} {x3 : ByteArray} {x4 x5 x6 x7 x8 x9 x10 x11 x12 : Int} {L : List Int} {a : Option Addr} {c : Nat} {W : World} (b_x3 : x3.size ≤ maxLen) (h : RdSl I W W.heap.size L a c) : Calls Tryz.prog 73 #[.agg #[.int .i64 x0, .int .i64 x1, .int .i64 x2, .string x3, .int .i64 x4, .int .i64 x5, .int .i64 x6, .int .i64 x7, .int .i64 x8, .int .i64 x9, .int .i64 x10, .int .i64 x11, .int .i64 x12, .slice a L.length c]] W (ResB (TaskR ((x0, x1), x2, x3, x4, x5, x6, (x7, x8), x9, x10, x11, x12, L)) W) := by
  have hn : L.length ≤ 9223372036854775807 := by have h1 := h.1; have h2 := h.2.1; unfold maxLen at h2; omega
  have H := Lib.hid h
  clear h
  have HX3 := Lib.hid b_x3
  unfold maxLen at b_x3
  obtain ⟨b0, h0⟩ : ∃ b, LabC.rB x0 x1 = b := ⟨_, rfl⟩
  have H0 := Lib.hid h0
  clear h0
  obtain ⟨b1, h1⟩ : ∃ b, isB x2 1 12 = b := ⟨_, rfl⟩
  have H1 := Lib.hid h1
  clear h1
  obtain ⟨b2, h2⟩ : ∃ b, nameB x3 = b := ⟨_, rfl⟩
  have H2 := Lib.hid h2
  clear h2
  obtain ⟨b3, h3⟩ : ∃ b, isB x4 1 6 = b := ⟨_, rfl⟩
  have H3 := Lib.hid h3
  clear h3
  obtain ⟨b4, h4⟩ : ∃ b, isB x5 1 20 = b := ⟨_, rfl⟩
  have H4 := Lib.hid h4
  clear h4
  obtain ⟨b5, h5⟩ : ∃ b, isB x6 0 9 = b := ⟨_, rfl⟩
  have H5 := Lib.hid h5
  clear h5
  obtain ⟨b6, h6⟩ : ∃ b, isB x10 0 999900 = b := ⟨_, rfl⟩
  have H6 := Lib.hid h6
  clear h6
  obtain ⟨b7, h7⟩ : ∃ b, isB x11 1 6 = b := ⟨_, rfl⟩
  have H7 := Lib.hid h7
  clear h7
  obtain ⟨b8, h8⟩ : ∃ b, isB x9 1 12 = b := ⟨_, rfl⟩
  have H8 := Lib.hid h8
  clear h8
  obtain ⟨b9, h9⟩ : ∃ b, LabC.belowB x7 x8 x0 x1 = b := ⟨_, rfl⟩
  have HBB := Lib.hid h9
  clear h9
  obtain ⟨b10, h10⟩ : ∃ b, isB x12 0 1000000 = b := ⟨_, rfl⟩
  have H10 := Lib.hid h10
  clear h10
  have HB0 := Lib.hid (show Below W.heap.size W (W.alloc (.cells #[.int .i64 x0, .int .i64 x1, .int .i64 x2, .string x3, .int .i64 x4, .int .i64 x5, .int .i64 x6, .int .i64 x7, .int .i64 x8, .int .i64 x9, .int .i64 x10, .int .i64 x11, .int .i64 x12, .slice a L.length c] 70)) from (Below.refl _ _).alloc (Nat.le_refl _) _)
  have HP0 := Lib.hid (Blk.new W 70 #[.int .i64 x0, .int .i64 x1, .int .i64 x2, .string x3, .int .i64 x4, .int .i64 x5, .int .i64 x6, .int .i64 x7, .int .i64 x8, .int .i64 x9, .int .i64 x10, .int .i64 x11, .int .i64 x12, .slice a L.length c])
  have hz0 : W.heap.size ≤ (W.alloc (.cells #[.int .i64 x0, .int .i64 x1, .int .i64 x2, .string x3, .int .i64 x4, .int .i64 x5, .int .i64 x6, .int .i64 x7, .int .i64 x8, .int .i64 x9, .int .i64 x10, .int .i64 x11, .int .i64 x12, .slice a L.length c] 70)).heap.size := HB0.out.size
  go_enter Tryz.func73, Tryz.ntmps73
  go_wp2_with fail
  refine (labS_at x0 x1 H0.out _).mono ?_
  rintro e w1 ⟨rfl, hb⟩
  have HP1 := Lib.hid (HP0.out.call hb)
  have HB1 := Lib.hid (HB0.out.trans (hb.mono hz0))
  have hz1 : W.heap.size ≤ w1.heap.size := HB1.out.size
  clear hb
  have p0 := HP1.out.at_ 0 rfl
  have p1 := HP1.out.at_ 1 rfl
  have p2 := HP1.out.at_ 2 rfl
  have p3 := HP1.out.at_ 3 rfl
  have p4 := HP1.out.at_ 4 rfl
  have p5 := HP1.out.at_ 5 rfl
  have p6 := HP1.out.at_ 6 rfl
  have p7 := HP1.out.at_ 7 rfl
  have p8 := HP1.out.at_ 8 rfl
  have p9 := HP1.out.at_ 9 rfl
  have p10 := HP1.out.at_ 10 rfl
  have p11 := HP1.out.at_ 11 rfl
  have p12 := HP1.out.at_ 12 rfl
  have p13 := HP1.out.at_ 13 rfl
  clear HP0 HB0
  cases b0 with
  | false =>
    have HV := Lib.hid (show ¬ TaskR ((x0, x1), x2, x3, x4, x5, x6, (x7, x8), x9, x10, x11, x12, L) from fun h => by have h2 := h.1; rw [H0.out] at h2; cases h2)
    go_wp2
    go_ret
    exact resB_no HV.out HB1.out
  | true =>
    go_wp2_with fail
    refine (isS_at _ _ _ H1.out _).mono ?_
    rintro e w2 ⟨rfl, rfl⟩
    cases b1 with
    | false =>
      have HV := Lib.hid (show ¬ TaskR ((x0, x1), x2, x3, x4, x5, x6, (x7, x8), x9, x10, x11, x12, L) from fun h => by have h2 := h.2.1; rw [H1.out] at h2; cases h2)
      go_wp2
      go_ret
      exact resB_no HV.out HB1.out
    | true =>
      go_wp2_with fail
      refine (nameS_at HX3.out H2.out _).mono ?_
      rintro e w2 ⟨rfl, rfl⟩
      cases b2 with
      | false =>
        have HV := Lib.hid (show ¬ TaskR ((x0, x1), x2, x3, x4, x5, x6, (x7, x8), x9, x10, x11, x12, L) from fun h => by have h2 := h.2.2.1; rw [H2.out] at h2; cases h2)
        go_wp2
        go_ret
        exact resB_no HV.out HB1.out
      | true =>
        go_wp2_with fail
        refine (isS_at _ _ _ H3.out _).mono ?_
        rintro e w2 ⟨rfl, rfl⟩
        cases b3 with
        | false =>
          have HV := Lib.hid (show ¬ TaskR ((x0, x1), x2, x3, x4, x5, x6, (x7, x8), x9, x10, x11, x12, L) from fun h => by have h2 := h.2.2.2.1; rw [H3.out] at h2; cases h2)
          go_wp2
          go_ret
          exact resB_no HV.out HB1.out
        | true =>
          go_wp2_with fail
          refine (isS_at _ _ _ H4.out _).mono ?_
          rintro e w2 ⟨rfl, rfl⟩
          cases b4 with
          | false =>
            have HV := Lib.hid (show ¬ TaskR ((x0, x1), x2, x3, x4, x5, x6, (x7, x8), x9, x10, x11, x12, L) from fun h => by have h2 := h.2.2.2.2.1; rw [H4.out] at h2; cases h2)
            go_wp2
            go_ret
            exact resB_no HV.out HB1.out
          | true =>
            go_wp2_with fail
            refine (isS_at _ _ _ H5.out _).mono ?_
            rintro e w2 ⟨rfl, rfl⟩
            cases b5 with
            | false =>
              have HV := Lib.hid (show ¬ TaskR ((x0, x1), x2, x3, x4, x5, x6, (x7, x8), x9, x10, x11, x12, L) from fun h => by have h2 := h.2.2.2.2.2.1; rw [H5.out] at h2; cases h2)
              go_wp2
              go_ret
              exact resB_no HV.out HB1.out
            | true =>
              go_wp2_with fail
              refine (nowS_at _ H6.out _).mono ?_
              rintro e w2 ⟨rfl, rfl⟩
              cases b6 with
              | false =>
                have HV := Lib.hid (show ¬ TaskR ((x0, x1), x2, x3, x4, x5, x6, (x7, x8), x9, x10, x11, x12, L) from fun h => by have h2 := h.2.2.2.2.2.2.1; rw [H6.out] at h2; cases h2)
                go_wp2
                go_ret
                exact resB_no HV.out HB1.out
              | true =>
                go_wp2_with fail
                refine (isS_at _ _ _ H7.out _).mono ?_
                rintro e w2 ⟨rfl, rfl⟩
                cases b7 with
                | false =>
                  have HV := Lib.hid (show ¬ TaskR ((x0, x1), x2, x3, x4, x5, x6, (x7, x8), x9, x10, x11, x12, L) from fun h => by have h2 := h.2.2.2.2.2.2.2.1; rw [H7.out] at h2; cases h2)
                  go_wp2
                  go_ret
                  exact resB_no HV.out HB1.out
                | true =>
                  by_cases h9 : x9 = 0
                  · have h9' : (x9 == 0) = true := beq_iff_eq.2 h9
                    have h9n : (x9 != 0) = false := by simp [h9]
                    obtain ⟨q, hq⟩ : ∃ q, decide (((x7, x8) : Int × Int) = (0, 0)) = q := ⟨_, rfl⟩
                    have hqq := neq_lab x7 x8 0 0 q hq
                    have HQ := Lib.hid hq
                    have H9 := Lib.hid h9
                    clear hq h9
                    cases q with
                    | false =>
                      have HV := Lib.hid (show ¬ TaskR ((x0, x1), x2, x3, x4, x5, x6, (x7, x8), x9, x10, x11, x12, L) from fun h => by have h2 := h.2.2.2.2.2.2.2.2.1.1 H9.out; exact of_decide_eq_false HQ.out (by rw [h2.1, h2.2]))
                      go_wp2
                      go_ret
                      exact resB_no HV.out HB1.out
                    | true =>
                      have HD := Lib.hid (show DepR x0 x1 x2 x7 x8 x9 from ⟨fun _ => by have h2 := of_decide_eq_true HQ.out; simpa using h2, fun h => absurd H9.out h⟩)
                      by_cases h2 : x11 = 2
                      · have h2' : (x11 == 2) = true := beq_iff_eq.2 h2
                        have HS := Lib.hid (show Has x11 L from Or.inl h2)
                        go_wp2_with fail
                        refine (timeS_at _ H10.out _).mono ?_
                        rintro e w9 ⟨rfl, rfl⟩
                        cases b10 with
                        | false =>
                          have HV := Lib.hid (show ¬ TaskR ((x0, x1), x2, x3, x4, x5, x6, (x7, x8), x9, x10, x11, x12, L) from fun h => by have h2 := (h.2.2.2.2.2.2.2.2.2.1 HS.out).1; rw [H10.out] at h2; cases h2)
                          go_wp2
                          go_ret
                          exact resB_no HV.out HB1.out
                        | true =>
                          by_cases hl : (L.length : Int) = x4
                          · have hl' : ((L.length : Int) == x4) = true := beq_iff_eq.2 hl
                            have HL := Lib.hid hl
                            clear hl
                            go_wp2_with fail
                            refine (nodes_spec ((H.out.below I_ok HB1.out).more I_ok hz1)).mono ?_
                            intro e w3 h
                            obtain ⟨b, rfl, hb, hw⟩ := resB_elim h
                            have HB := Lib.hid (HB1.out.trans (hw.mono hz1))
                            have HV := Lib.hid (show (b = true ↔ TaskR ((x0, x1), x2, x3, x4, x5, x6, (x7, x8), x9, x10, x11, x12, L)) from hb.trans ⟨fun hN => ⟨H0.out, H1.out, H2.out, H3.out, H4.out, H5.out, H6.out, H7.out, HD.out, fun _ => ⟨H10.out, HL.out, hN⟩, fun h => absurd HS.out h⟩, fun h => (h.2.2.2.2.2.2.2.2.2.1 HS.out).2.2⟩)
                            clear h hb hw
                            go_wp2
                            go_ret
                            exact ⟨b, rfl, HV.out, HB.out⟩
                          · have hl' : ((L.length : Int) == x4) = false := beq_eq_false_iff_ne.2 hl
                            have HV := Lib.hid (show ¬ TaskR ((x0, x1), x2, x3, x4, x5, x6, (x7, x8), x9, x10, x11, x12, L) from fun h => hl (h.2.2.2.2.2.2.2.2.2.1 HS.out).2.1)
                            go_wp2
                            go_ret
                            exact resB_no HV.out HB1.out
                      · have h2' : (x11 == 2) = false := beq_eq_false_iff_ne.2 h2
                        by_cases h1 : x11 = 1
                        · have h1' : (x11 == 1) = true := beq_iff_eq.2 h1
                          by_cases hp : 0 < L.length
                          · have hp' : decide ((0 : Int) < (L.length : Int)) = true := decide_eq_true (by omega)
                            have HS := Lib.hid (show Has x11 L from Or.inr ⟨h1, hp⟩)
                            go_wp2_with fail
                            refine (timeS_at _ H10.out _).mono ?_
                            rintro e w9 ⟨rfl, rfl⟩
                            cases b10 with
                            | false =>
                              have HV := Lib.hid (show ¬ TaskR ((x0, x1), x2, x3, x4, x5, x6, (x7, x8), x9, x10, x11, x12, L) from fun h => by have h2 := (h.2.2.2.2.2.2.2.2.2.1 HS.out).1; rw [H10.out] at h2; cases h2)
                              go_wp2
                              go_ret
                              exact resB_no HV.out HB1.out
                            | true =>
                              by_cases hl : (L.length : Int) = x4
                              · have hl' : ((L.length : Int) == x4) = true := beq_iff_eq.2 hl
                                have HL := Lib.hid hl
                                clear hl
                                go_wp2_with fail
                                refine (nodes_spec ((H.out.below I_ok HB1.out).more I_ok hz1)).mono ?_
                                intro e w3 h
                                obtain ⟨b, rfl, hb, hw⟩ := resB_elim h
                                have HB := Lib.hid (HB1.out.trans (hw.mono hz1))
                                have HV := Lib.hid (show (b = true ↔ TaskR ((x0, x1), x2, x3, x4, x5, x6, (x7, x8), x9, x10, x11, x12, L)) from hb.trans ⟨fun hN => ⟨H0.out, H1.out, H2.out, H3.out, H4.out, H5.out, H6.out, H7.out, HD.out, fun _ => ⟨H10.out, HL.out, hN⟩, fun h => absurd HS.out h⟩, fun h => (h.2.2.2.2.2.2.2.2.2.1 HS.out).2.2⟩)
                                clear h hb hw
                                go_wp2
                                go_ret
                                exact ⟨b, rfl, HV.out, HB.out⟩
                              · have hl' : ((L.length : Int) == x4) = false := beq_eq_false_iff_ne.2 hl
                                have HV := Lib.hid (show ¬ TaskR ((x0, x1), x2, x3, x4, x5, x6, (x7, x8), x9, x10, x11, x12, L) from fun h => hl (h.2.2.2.2.2.2.2.2.2.1 HS.out).2.1)
                                go_wp2
                                go_ret
                                exact resB_no HV.out HB1.out
                          · have hp' : decide ((0 : Int) < (L.length : Int)) = false := decide_eq_false (by omega)
                            have HS := Lib.hid (show ¬ Has x11 L from fun h => h.elim h2 (fun h => hp h.2))
                            by_cases h7 : x12 = 0
                            · have h7' : (x12 == 0) = true := beq_iff_eq.2 h7
                              have H12 := Lib.hid h7
                              clear h7
                              obtain rfl : L = [] := List.eq_nil_of_length_eq_zero (by omega)
                              clear hp hp' hn
                              have HV := Lib.hid (show TaskR ((x0, x1), x2, x3, x4, x5, x6, (x7, x8), x9, x10, x11, x12, []) from ⟨H0.out, H1.out, H2.out, H3.out, H4.out, H5.out, H6.out, H7.out, HD.out, fun h => absurd h HS.out, fun _ => ⟨H12.out, rfl⟩⟩)
                              go_wp2
                              go_ret
                              exact resB_yes HV.out HB1.out
                            · have h7' : (x12 == 0) = false := beq_eq_false_iff_ne.2 h7
                              have HV := Lib.hid (show ¬ TaskR ((x0, x1), x2, x3, x4, x5, x6, (x7, x8), x9, x10, x11, x12, L) from fun h => h7 (h.2.2.2.2.2.2.2.2.2.2 HS.out).1)
                              go_wp2
                              go_ret
                              exact resB_no HV.out HB1.out
                        · have h1' : (x11 == 1) = false := beq_eq_false_iff_ne.2 h1
                          have HS := Lib.hid (show ¬ Has x11 L from fun h => h.elim h2 (fun h => h1 h.1))
                          by_cases h7 : x12 = 0
                          · have h7' : (x12 == 0) = true := beq_iff_eq.2 h7
                            have H12 := Lib.hid h7
                            clear h7
                            by_cases hl : L.length = 0
                            · have hl' : ((L.length : Int) == 0) = true := beq_iff_eq.2 (by omega)
                              have HL := Lib.hid hl
                              clear hl
                              have HV := Lib.hid (show TaskR ((x0, x1), x2, x3, x4, x5, x6, (x7, x8), x9, x10, x11, x12, L) from ⟨H0.out, H1.out, H2.out, H3.out, H4.out, H5.out, H6.out, H7.out, HD.out, fun h => absurd h HS.out, fun _ => ⟨H12.out, HL.out⟩⟩)
                              go_wp2
                              go_ret
                              exact resB_yes HV.out HB1.out
                            · have hl' : ((L.length : Int) == 0) = false := beq_eq_false_iff_ne.2 (by omega)
                              have HV := Lib.hid (show ¬ TaskR ((x0, x1), x2, x3, x4, x5, x6, (x7, x8), x9, x10, x11, x12, L) from fun h => hl (h.2.2.2.2.2.2.2.2.2.2 HS.out).2)
                              go_wp2
                              go_ret
                              exact resB_no HV.out HB1.out
                          · have h7' : (x12 == 0) = false := beq_eq_false_iff_ne.2 h7
                            have HV := Lib.hid (show ¬ TaskR ((x0, x1), x2, x3, x4, x5, x6, (x7, x8), x9, x10, x11, x12, L) from fun h => h7 (h.2.2.2.2.2.2.2.2.2.2 HS.out).1)
                            go_wp2
                            go_ret
                            exact resB_no HV.out HB1.out
                  · have h9' : (x9 == 0) = false := beq_eq_false_iff_ne.2 h9
                    have h9n : (x9 != 0) = true := by simp [h9]
                    have H9 := Lib.hid h9
                    clear h9
                    go_wp2_with fail
                    refine (isS_at _ _ _ H8.out _).mono ?_
                    rintro e w2 ⟨rfl, rfl⟩
                    cases b8 with
                    | false =>
                      have HV := Lib.hid (show ¬ TaskR ((x0, x1), x2, x3, x4, x5, x6, (x7, x8), x9, x10, x11, x12, L) from fun h => by have h2 := (h.2.2.2.2.2.2.2.2.1.2 H9.out).1; rw [H8.out] at h2; cases h2)
                      go_wp2
                      go_ret
                      exact resB_no HV.out HB1.out
                    | true =>
                      go_wp2_with fail
                      refine (belS_at _ _ _ _ HBB.out _).mono ?_
                      rintro e w2 ⟨rfl, hb⟩
                      have HP2 := Lib.hid (HP1.out.call hb)
                      have HB2 := Lib.hid (HB1.out.trans (hb.mono hz1))
                      have hz2 : W.heap.size ≤ w2.heap.size := HB2.out.size
                      clear hb
                      clear p0 p1 p2 p3 p4 p5 p6 p7 p8 p9 p10 p11 p12 p13
                      have p0 := HP2.out.at_ 0 rfl
                      have p1 := HP2.out.at_ 1 rfl
                      have p2 := HP2.out.at_ 2 rfl
                      have p3 := HP2.out.at_ 3 rfl
                      have p4 := HP2.out.at_ 4 rfl
                      have p5 := HP2.out.at_ 5 rfl
                      have p6 := HP2.out.at_ 6 rfl
                      have p7 := HP2.out.at_ 7 rfl
                      have p8 := HP2.out.at_ 8 rfl
                      have p9 := HP2.out.at_ 9 rfl
                      have p10 := HP2.out.at_ 10 rfl
                      have p11 := HP2.out.at_ 11 rfl
                      have p12 := HP2.out.at_ 12 rfl
                      have p13 := HP2.out.at_ 13 rfl
                      cases b9 with
                      | false =>
                        have HV := Lib.hid (show ¬ TaskR ((x0, x1), x2, x3, x4, x5, x6, (x7, x8), x9, x10, x11, x12, L) from fun h => by have h2 := (h.2.2.2.2.2.2.2.2.1.2 H9.out).2.1; rw [HBB.out] at h2; cases h2)
                        go_wp2
                        go_ret
                        exact resB_no HV.out HB2.out
                      | true =>
                        obtain ⟨q, hq⟩ : ∃ q, decide (((x7, x8) : Int × Int) = (x0, x1)) = q := ⟨_, rfl⟩
                        have hqq := eql_lab x7 x8 x0 x1 q hq
                        have HQ := Lib.hid hq
                        clear hq
                        cases q with
                        | false =>
                          have HD := Lib.hid (show DepR x0 x1 x2 x7 x8 x9 from ⟨fun h => absurd h H9.out, fun _ => ⟨H8.out, HBB.out, fun h => of_decide_eq_false HQ.out (by rw [h.1.1, h.1.2])⟩⟩)
                          by_cases h2 : x11 = 2
                          · have h2' : (x11 == 2) = true := beq_iff_eq.2 h2
                            have HS := Lib.hid (show Has x11 L from Or.inl h2)
                            go_wp2_with fail
                            refine (timeS_at _ H10.out _).mono ?_
                            rintro e w9 ⟨rfl, rfl⟩
                            cases b10 with
                            | false =>
                              have HV := Lib.hid (show ¬ TaskR ((x0, x1), x2, x3, x4, x5, x6, (x7, x8), x9, x10, x11, x12, L) from fun h => by have h2 := (h.2.2.2.2.2.2.2.2.2.1 HS.out).1; rw [H10.out] at h2; cases h2)
                              go_wp2
                              go_ret
                              exact resB_no HV.out HB2.out
                            | true =>
                              by_cases hl : (L.length : Int) = x4
                              · have hl' : ((L.length : Int) == x4) = true := beq_iff_eq.2 hl
                                have HL := Lib.hid hl
                                clear hl
                                go_wp2_with fail
                                refine (nodes_spec ((H.out.below I_ok HB2.out).more I_ok hz2)).mono ?_
                                intro e w3 h
                                obtain ⟨b, rfl, hb, hw⟩ := resB_elim h
                                have HB := Lib.hid (HB2.out.trans (hw.mono hz2))
                                have HV := Lib.hid (show (b = true ↔ TaskR ((x0, x1), x2, x3, x4, x5, x6, (x7, x8), x9, x10, x11, x12, L)) from hb.trans ⟨fun hN => ⟨H0.out, H1.out, H2.out, H3.out, H4.out, H5.out, H6.out, H7.out, HD.out, fun _ => ⟨H10.out, HL.out, hN⟩, fun h => absurd HS.out h⟩, fun h => (h.2.2.2.2.2.2.2.2.2.1 HS.out).2.2⟩)
                                clear h hb hw
                                go_wp2
                                go_ret
                                exact ⟨b, rfl, HV.out, HB.out⟩
                              · have hl' : ((L.length : Int) == x4) = false := beq_eq_false_iff_ne.2 hl
                                have HV := Lib.hid (show ¬ TaskR ((x0, x1), x2, x3, x4, x5, x6, (x7, x8), x9, x10, x11, x12, L) from fun h => hl (h.2.2.2.2.2.2.2.2.2.1 HS.out).2.1)
                                go_wp2
                                go_ret
                                exact resB_no HV.out HB2.out
                          · have h2' : (x11 == 2) = false := beq_eq_false_iff_ne.2 h2
                            by_cases h1 : x11 = 1
                            · have h1' : (x11 == 1) = true := beq_iff_eq.2 h1
                              by_cases hp : 0 < L.length
                              · have hp' : decide ((0 : Int) < (L.length : Int)) = true := decide_eq_true (by omega)
                                have HS := Lib.hid (show Has x11 L from Or.inr ⟨h1, hp⟩)
                                go_wp2_with fail
                                refine (timeS_at _ H10.out _).mono ?_
                                rintro e w9 ⟨rfl, rfl⟩
                                cases b10 with
                                | false =>
                                  have HV := Lib.hid (show ¬ TaskR ((x0, x1), x2, x3, x4, x5, x6, (x7, x8), x9, x10, x11, x12, L) from fun h => by have h2 := (h.2.2.2.2.2.2.2.2.2.1 HS.out).1; rw [H10.out] at h2; cases h2)
                                  go_wp2
                                  go_ret
                                  exact resB_no HV.out HB2.out
                                | true =>
                                  by_cases hl : (L.length : Int) = x4
                                  · have hl' : ((L.length : Int) == x4) = true := beq_iff_eq.2 hl
                                    have HL := Lib.hid hl
                                    clear hl
                                    go_wp2_with fail
                                    refine (nodes_spec ((H.out.below I_ok HB2.out).more I_ok hz2)).mono ?_
                                    intro e w3 h
                                    obtain ⟨b, rfl, hb, hw⟩ := resB_elim h
                                    have HB := Lib.hid (HB2.out.trans (hw.mono hz2))
                                    have HV := Lib.hid (show (b = true ↔ TaskR ((x0, x1), x2, x3, x4, x5, x6, (x7, x8), x9, x10, x11, x12, L)) from hb.trans ⟨fun hN => ⟨H0.out, H1.out, H2.out, H3.out, H4.out, H5.out, H6.out, H7.out, HD.out, fun _ => ⟨H10.out, HL.out, hN⟩, fun h => absurd HS.out h⟩, fun h => (h.2.2.2.2.2.2.2.2.2.1 HS.out).2.2⟩)
                                    clear h hb hw
                                    go_wp2
                                    go_ret
                                    exact ⟨b, rfl, HV.out, HB.out⟩
                                  · have hl' : ((L.length : Int) == x4) = false := beq_eq_false_iff_ne.2 hl
                                    have HV := Lib.hid (show ¬ TaskR ((x0, x1), x2, x3, x4, x5, x6, (x7, x8), x9, x10, x11, x12, L) from fun h => hl (h.2.2.2.2.2.2.2.2.2.1 HS.out).2.1)
                                    go_wp2
                                    go_ret
                                    exact resB_no HV.out HB2.out
                              · have hp' : decide ((0 : Int) < (L.length : Int)) = false := decide_eq_false (by omega)
                                have HS := Lib.hid (show ¬ Has x11 L from fun h => h.elim h2 (fun h => hp h.2))
                                by_cases h7 : x12 = 0
                                · have h7' : (x12 == 0) = true := beq_iff_eq.2 h7
                                  have H12 := Lib.hid h7
                                  clear h7
                                  obtain rfl : L = [] := List.eq_nil_of_length_eq_zero (by omega)
                                  clear hp hp' hn
                                  have HV := Lib.hid (show TaskR ((x0, x1), x2, x3, x4, x5, x6, (x7, x8), x9, x10, x11, x12, []) from ⟨H0.out, H1.out, H2.out, H3.out, H4.out, H5.out, H6.out, H7.out, HD.out, fun h => absurd h HS.out, fun _ => ⟨H12.out, rfl⟩⟩)
                                  go_wp2
                                  go_ret
                                  exact resB_yes HV.out HB2.out
                                · have h7' : (x12 == 0) = false := beq_eq_false_iff_ne.2 h7
                                  have HV := Lib.hid (show ¬ TaskR ((x0, x1), x2, x3, x4, x5, x6, (x7, x8), x9, x10, x11, x12, L) from fun h => h7 (h.2.2.2.2.2.2.2.2.2.2 HS.out).1)
                                  go_wp2
                                  go_ret
                                  exact resB_no HV.out HB2.out
                            · have h1' : (x11 == 1) = false := beq_eq_false_iff_ne.2 h1
                              have HS := Lib.hid (show ¬ Has x11 L from fun h => h.elim h2 (fun h => h1 h.1))
                              by_cases h7 : x12 = 0
                              · have h7' : (x12 == 0) = true := beq_iff_eq.2 h7
                                have H12 := Lib.hid h7
                                clear h7
                                by_cases hl : L.length = 0
                                · have hl' : ((L.length : Int) == 0) = true := beq_iff_eq.2 (by omega)
                                  have HL := Lib.hid hl
                                  clear hl
                                  have HV := Lib.hid (show TaskR ((x0, x1), x2, x3, x4, x5, x6, (x7, x8), x9, x10, x11, x12, L) from ⟨H0.out, H1.out, H2.out, H3.out, H4.out, H5.out, H6.out, H7.out, HD.out, fun h => absurd h HS.out, fun _ => ⟨H12.out, HL.out⟩⟩)
                                  go_wp2
                                  go_ret
                                  exact resB_yes HV.out HB2.out
                                · have hl' : ((L.length : Int) == 0) = false := beq_eq_false_iff_ne.2 (by omega)
                                  have HV := Lib.hid (show ¬ TaskR ((x0, x1), x2, x3, x4, x5, x6, (x7, x8), x9, x10, x11, x12, L) from fun h => hl (h.2.2.2.2.2.2.2.2.2.2 HS.out).2)
                                  go_wp2
                                  go_ret
                                  exact resB_no HV.out HB2.out
                              · have h7' : (x12 == 0) = false := beq_eq_false_iff_ne.2 h7
                                have HV := Lib.hid (show ¬ TaskR ((x0, x1), x2, x3, x4, x5, x6, (x7, x8), x9, x10, x11, x12, L) from fun h => h7 (h.2.2.2.2.2.2.2.2.2.2 HS.out).1)
                                go_wp2
                                go_ret
                                exact resB_no HV.out HB2.out
                        | true =>
                          by_cases hle : x2 ≤ x9
                          · have hle' : decide (x2 ≤ x9) = true := decide_eq_true hle
                            have HV := Lib.hid (show ¬ TaskR ((x0, x1), x2, x3, x4, x5, x6, (x7, x8), x9, x10, x11, x12, L) from fun h => (h.2.2.2.2.2.2.2.2.1.2 H9.out).2.2 ⟨by have h2 := of_decide_eq_true HQ.out; simpa using h2, hle⟩)
                            go_wp2
                            go_ret
                            exact resB_no HV.out HB2.out
                          · have hle' : decide (x2 ≤ x9) = false := decide_eq_false hle
                            have HD := Lib.hid (show DepR x0 x1 x2 x7 x8 x9 from ⟨fun h => absurd h H9.out, fun _ => ⟨H8.out, HBB.out, fun h => hle h.2⟩⟩)
                            by_cases h2 : x11 = 2
                            · have h2' : (x11 == 2) = true := beq_iff_eq.2 h2
                              have HS := Lib.hid (show Has x11 L from Or.inl h2)
                              go_wp2_with fail
                              refine (timeS_at _ H10.out _).mono ?_
                              rintro e w9 ⟨rfl, rfl⟩
                              cases b10 with
                              | false =>
                                have HV := Lib.hid (show ¬ TaskR ((x0, x1), x2, x3, x4, x5, x6, (x7, x8), x9, x10, x11, x12, L) from fun h => by have h2 := (h.2.2.2.2.2.2.2.2.2.1 HS.out).1; rw [H10.out] at h2; cases h2)
                                go_wp2
                                go_ret
                                exact resB_no HV.out HB2.out
                              | true =>
                                by_cases hl : (L.length : Int) = x4
                                · have hl' : ((L.length : Int) == x4) = true := beq_iff_eq.2 hl
                                  have HL := Lib.hid hl
                                  clear hl
                                  go_wp2_with fail
                                  refine (nodes_spec ((H.out.below I_ok HB2.out).more I_ok hz2)).mono ?_
                                  intro e w3 h
                                  obtain ⟨b, rfl, hb, hw⟩ := resB_elim h
                                  have HB := Lib.hid (HB2.out.trans (hw.mono hz2))
                                  have HV := Lib.hid (show (b = true ↔ TaskR ((x0, x1), x2, x3, x4, x5, x6, (x7, x8), x9, x10, x11, x12, L)) from hb.trans ⟨fun hN => ⟨H0.out, H1.out, H2.out, H3.out, H4.out, H5.out, H6.out, H7.out, HD.out, fun _ => ⟨H10.out, HL.out, hN⟩, fun h => absurd HS.out h⟩, fun h => (h.2.2.2.2.2.2.2.2.2.1 HS.out).2.2⟩)
                                  clear h hb hw
                                  go_wp2
                                  go_ret
                                  exact ⟨b, rfl, HV.out, HB.out⟩
                                · have hl' : ((L.length : Int) == x4) = false := beq_eq_false_iff_ne.2 hl
                                  have HV := Lib.hid (show ¬ TaskR ((x0, x1), x2, x3, x4, x5, x6, (x7, x8), x9, x10, x11, x12, L) from fun h => hl (h.2.2.2.2.2.2.2.2.2.1 HS.out).2.1)
                                  go_wp2
                                  go_ret
                                  exact resB_no HV.out HB2.out
                            · have h2' : (x11 == 2) = false := beq_eq_false_iff_ne.2 h2
                              by_cases h1 : x11 = 1
                              · have h1' : (x11 == 1) = true := beq_iff_eq.2 h1
                                by_cases hp : 0 < L.length
                                · have hp' : decide ((0 : Int) < (L.length : Int)) = true := decide_eq_true (by omega)
                                  have HS := Lib.hid (show Has x11 L from Or.inr ⟨h1, hp⟩)
                                  go_wp2_with fail
                                  refine (timeS_at _ H10.out _).mono ?_
                                  rintro e w9 ⟨rfl, rfl⟩
                                  cases b10 with
                                  | false =>
                                    have HV := Lib.hid (show ¬ TaskR ((x0, x1), x2, x3, x4, x5, x6, (x7, x8), x9, x10, x11, x12, L) from fun h => by have h2 := (h.2.2.2.2.2.2.2.2.2.1 HS.out).1; rw [H10.out] at h2; cases h2)
                                    go_wp2
                                    go_ret
                                    exact resB_no HV.out HB2.out
                                  | true =>
                                    by_cases hl : (L.length : Int) = x4
                                    · have hl' : ((L.length : Int) == x4) = true := beq_iff_eq.2 hl
                                      have HL := Lib.hid hl
                                      clear hl
                                      go_wp2_with fail
                                      refine (nodes_spec ((H.out.below I_ok HB2.out).more I_ok hz2)).mono ?_
                                      intro e w3 h
                                      obtain ⟨b, rfl, hb, hw⟩ := resB_elim h
                                      have HB := Lib.hid (HB2.out.trans (hw.mono hz2))
                                      have HV := Lib.hid (show (b = true ↔ TaskR ((x0, x1), x2, x3, x4, x5, x6, (x7, x8), x9, x10, x11, x12, L)) from hb.trans ⟨fun hN => ⟨H0.out, H1.out, H2.out, H3.out, H4.out, H5.out, H6.out, H7.out, HD.out, fun _ => ⟨H10.out, HL.out, hN⟩, fun h => absurd HS.out h⟩, fun h => (h.2.2.2.2.2.2.2.2.2.1 HS.out).2.2⟩)
                                      clear h hb hw
                                      go_wp2
                                      go_ret
                                      exact ⟨b, rfl, HV.out, HB.out⟩
                                    · have hl' : ((L.length : Int) == x4) = false := beq_eq_false_iff_ne.2 hl
                                      have HV := Lib.hid (show ¬ TaskR ((x0, x1), x2, x3, x4, x5, x6, (x7, x8), x9, x10, x11, x12, L) from fun h => hl (h.2.2.2.2.2.2.2.2.2.1 HS.out).2.1)
                                      go_wp2
                                      go_ret
                                      exact resB_no HV.out HB2.out
                                · have hp' : decide ((0 : Int) < (L.length : Int)) = false := decide_eq_false (by omega)
                                  have HS := Lib.hid (show ¬ Has x11 L from fun h => h.elim h2 (fun h => hp h.2))
                                  by_cases h7 : x12 = 0
                                  · have h7' : (x12 == 0) = true := beq_iff_eq.2 h7
                                    have H12 := Lib.hid h7
                                    clear h7
                                    obtain rfl : L = [] := List.eq_nil_of_length_eq_zero (by omega)
                                    clear hp hp' hn
                                    have HV := Lib.hid (show TaskR ((x0, x1), x2, x3, x4, x5, x6, (x7, x8), x9, x10, x11, x12, []) from ⟨H0.out, H1.out, H2.out, H3.out, H4.out, H5.out, H6.out, H7.out, HD.out, fun h => absurd h HS.out, fun _ => ⟨H12.out, rfl⟩⟩)
                                    go_wp2
                                    go_ret
                                    exact resB_yes HV.out HB2.out
                                  · have h7' : (x12 == 0) = false := beq_eq_false_iff_ne.2 h7
                                    have HV := Lib.hid (show ¬ TaskR ((x0, x1), x2, x3, x4, x5, x6, (x7, x8), x9, x10, x11, x12, L) from fun h => h7 (h.2.2.2.2.2.2.2.2.2.2 HS.out).1)
                                    go_wp2
                                    go_ret
                                    exact resB_no HV.out HB2.out
                              · have h1' : (x11 == 1) = false := beq_eq_false_iff_ne.2 h1
                                have HS := Lib.hid (show ¬ Has x11 L from fun h => h.elim h2 (fun h => h1 h.1))
                                by_cases h7 : x12 = 0
                                · have h7' : (x12 == 0) = true := beq_iff_eq.2 h7
                                  have H12 := Lib.hid h7
                                  clear h7
                                  by_cases hl : L.length = 0
                                  · have hl' : ((L.length : Int) == 0) = true := beq_iff_eq.2 (by omega)
                                    have HL := Lib.hid hl
                                    clear hl
                                    have HV := Lib.hid (show TaskR ((x0, x1), x2, x3, x4, x5, x6, (x7, x8), x9, x10, x11, x12, L) from ⟨H0.out, H1.out, H2.out, H3.out, H4.out, H5.out, H6.out, H7.out, HD.out, fun h => absurd h HS.out, fun _ => ⟨H12.out, HL.out⟩⟩)
                                    go_wp2
                                    go_ret
                                    exact resB_yes HV.out HB2.out
                                  · have hl' : ((L.length : Int) == 0) = false := beq_eq_false_iff_ne.2 (by omega)
                                    have HV := Lib.hid (show ¬ TaskR ((x0, x1), x2, x3, x4, x5, x6, (x7, x8), x9, x10, x11, x12, L) from fun h => hl (h.2.2.2.2.2.2.2.2.2.2 HS.out).2)
                                    go_wp2
                                    go_ret
                                    exact resB_no HV.out HB2.out
                                · have h7' : (x12 == 0) = false := beq_eq_false_iff_ne.2 h7
                                  have HV := Lib.hid (show ¬ TaskR ((x0, x1), x2, x3, x4, x5, x6, (x7, x8), x9, x10, x11, x12, L) from fun h => h7 (h.2.2.2.2.2.2.2.2.2.2 HS.out).1)
                                  go_wp2
                                  go_ret
                                  exact resB_no HV.out HB2.out
end Go.Proofs.YtelhmacfljffhaaGreat.RepC
end
section
namespace Go.Proofs.YtelhmacfljffhaaGreat.RepC
open Go.RowKit RowC ValC SpanC KeptC
set_option linter.unusedVariables false
set_option linter.unusedSimpArgs false
theorem wi_at (n lo hi : Int) {b : Bool} (hb : isB n lo hi = b) (w : World) :
    Calls Tryz.prog 90 #[.int .i64 n, .int .i64 lo, .int .i64 hi] w fun e w' => e = .returned (.bool b) ∧ w = w' := by
  subst hb
  exact is_impl n lo hi w
theorem isB_io {n lo hi : Int} : isB n lo hi = true ↔ lo ≤ n ∧ n ≤ hi := isB_iff n lo hi
end Go.Proofs.YtelhmacfljffhaaGreat.RepC
end
section
namespace Go.Proofs.YtelhmacfljffhaaGreat.RepC
open Go.RowKit RowC ValC SpanC KeptC
set_option linter.unusedVariables false
set_option linter.unusedSimpArgs false
theorem ti_at (n : Int) {b : Bool} (hb : isB n 0 1000000 = b) (w : World) :
    Calls Tryz.prog 183 #[.int .i64 n] w fun e w' => e = .returned (.bool b) ∧ w = w' := by
  subst hb
  exact time_impl n w
theorem labi_below (l s : Int) {b : Bool} (hb : LabC.rB l s = b) (w : World) :
    Calls Tryz.prog 96 #[.agg #[.int .i64 l, .int .i64 s]] w fun e w' => e = .returned (.bool b) ∧ Below w.heap.size w w' := by
  subst hb
  exact (LabC.right_impl l s w).mono fun _ _ ⟨h1, h2⟩ => ⟨h1, by rw [← h2]; exact (Below.refl _ _).alloc (Nat.le_refl _) _⟩
theorem okN_first {L : List Int} {x : Int} (hx : L[0]? = some x) : isB x 0 5 = true ↔ okN L 0 :=
  ⟨fun h y hy => by rw [hx] at hy; obtain rfl := Option.some.inj hy; exact ⟨h, fun h => absurd h (Nat.lt_irrefl _)⟩, fun h => (h x hx).1⟩
theorem okN_next {L : List Int} {k : Nat} {x y : Int} (hx : L[k]? = some x) (hr : isB x 0 5 = true) (hy : L[k + 1]? = some y) : isB y (x + 1) 5 = true ↔ okN L (k + 1) := by
  rw [isB_io] at hr ⊢
  constructor
  · intro h z hz
    rw [hy] at hz
    obtain rfl := Option.some.inj hz
    refine ⟨isB_io.2 (by omega), fun _ u hu => ?_⟩
    rw [Nat.add_sub_cancel, hx] at hu
    obtain rfl := Option.some.inj hu
    omega
  · intro h
    obtain ⟨h1, h2⟩ := h y hy
    have h3 := h2 (Nat.succ_pos _) x (by rw [Nat.add_sub_cancel]; exact hx)
    rw [isB_io] at h1
    omega
set_option maxRecDepth 100000 in
set_option maxHeartbeats 3200000 in
theorem nodes_impl {L : List Int} {a : Option Addr} {cap : Nat} {W : World} (h : RdSl I W W.heap.size L a cap) :
    Calls Tryz.prog 198 #[.slice a L.length cap] W (ResB (NodesR L) W) := by
  have hn : L.length ≤ 9223372036854775807 := by have h1 := h.1; have h2 := h.2.1; unfold maxLen at h2; omega
  have H := Lib.hid h
  clear h
  go_enter Tryz.func198, Tryz.ntmps198
  go_wp2
  go_loopw [3, 8] (fun l i wr => ∃ k : Nat, k ≤ L.length ∧ i = .int .i64 k ∧ (∃ m : Int, l = .int .i64 m ∧ 0 ≤ m ∧ m ≤ 6 ∧ Hid (∀ x, L[k]? = some x → (isB x m 5 = true ↔ okN L k))) ∧ Hid (∀ j, j < k → okN L j) ∧ Below W.heap.size W wr) (fun _ i _ => L.length - (intOf i).toNat)
  case atStart => exact ⟨0, Nat.zero_le _, rfl, ⟨0, rfl, by omega, by omega, Lib.hid fun x hx => okN_first hx⟩, Lib.hid fun j h => absurd h (Nat.not_lt_zero _), Below.refl _ _⟩
  case round =>
    obtain ⟨k, hk, rfl, ⟨m, rfl, hm0, hm6, HM⟩, HA, hB⟩ := hrel
    have HB := Lib.hid hB
    have hsz := hB.size
    by_cases hlt : k < L.length
    · obtain ⟨x, hx⟩ := el_some hlt
      have HX := Lib.hid hx
      obtain ⟨g, o, us, rfl, hg, hu, hr⟩ := (H.out.below I_ok hB).at_ hx
      obtain rfl : us = [_] := hr
      have hc0 : wr.cell? ⟨g, o + k, none⟩ = some (.int .i64 x) := by simpa [show I.size = 1 from rfl] using hu 0 _ rfl
      have hi0 : (0 : Int) ≤ (k : Int) := Int.natCast_nonneg _
      have hi1 : (k : Int) < (L.length : Int) := by omega
      clear hB hx hu
      obtain ⟨b, hb⟩ : ∃ b, isB x m 5 = b := ⟨_, rfl⟩
      have HR := Lib.hid hb
      clear hb
      go_wp2_with fail
      refine (wi_at _ _ _ HR.out _).mono ?_
      rintro e w2 ⟨rfl, rfl⟩
      cases b with
      | false =>
        have Hno := Lib.hid (show ¬ NodesR L from fun h => by have := (HM.out x HX.out).2 (h k hlt); rw [HR.out] at this; cases this)
        go_wp2
        go_ret
        exact resB_no Hno.out HB.out
      | true =>
        have hxb : m ≤ x ∧ x ≤ 5 := isB_io.1 HR.out
        have hx1 : IntKind.i64.wrap (x + 1) = x + 1 := IntWalk.i64_in _ (by omega)
        have hx0 := hxb.1
        have hx5 := hxb.2
        clear hxb
        have HOK := Lib.hid (all_step HA.out ((HM.out x HX.out).1 HR.out))
        have HN := Lib.hid (fun y (hy : L[k + 1]? = some y) => okN_next HX.out (isB_io.2 ⟨by omega, hx5⟩) hy)
        go_wp2
        go_roundw
        case rel => exact ⟨k + 1, by omega, by go_num, ⟨x + 1, by go_num, by omega, by omega, HN⟩, HOK, HB.out⟩
        case measure => simp [intOf]; omega
    · have Hy := Lib.hid (show NodesR L from fun i hi => HA.out i (by omega))
      clear hB
      go_wp2
      go_ret
      exact resB_yes Hy.out HB.out
set_option maxHeartbeats 1600000 in
theorem wish_impl {x3 x4 x5 : Int} {b : Bool} (hb : (isB x3 1 6 && (isB x4 1 20 && isB x5 0 9)) = b) (W : World) : Calls Tryz.prog 149 #[.int .i64 x3, .int .i64 x4, .int .i64 x5] W fun e w' => e = .returned (.bool b) ∧ W = w' := by
  obtain ⟨b1, h1⟩ : ∃ b, isB x3 1 6 = b := ⟨_, rfl⟩
  obtain ⟨b2, h2⟩ : ∃ b, isB x4 1 20 = b := ⟨_, rfl⟩
  obtain ⟨b3, h3⟩ : ∃ b, isB x5 0 9 = b := ⟨_, rfl⟩
  rw [h1, h2, h3] at hb
  subst hb
  have H1 := Lib.hid h1
  have H2 := Lib.hid h2
  have H3 := Lib.hid h3
  clear h1 h2 h3
  go_enter Tryz.func149, Tryz.ntmps149
  go_wp2_with fail
  refine (wi_at _ _ _ H1.out _).mono ?_
  rintro e w2 ⟨rfl, rfl⟩
  cases b1 with
  | false =>
    go_wp2
    go_ret
    exact ⟨rfl, rfl⟩
  | true =>
    go_wp2_with fail
    refine (wi_at _ _ _ H2.out _).mono ?_
    rintro e w2 ⟨rfl, rfl⟩
    cases b2 with
    | false =>
      go_wp2
      go_ret
      exact ⟨rfl, rfl⟩
    | true =>
      go_wp2_with fail
      refine (wi_at _ _ _ H3.out _).mono ?_
      rintro e w2 ⟨rfl, rfl⟩
      go_wp2
      go_ret
      exact ⟨by simp, rfl⟩
end Go.Proofs.YtelhmacfljffhaaGreat.RepC
end
