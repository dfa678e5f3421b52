/- (useTable).uses: the list of a map of accounts: a contract. -/
import Derived.Test.YtjhcphmehlihcaaTk
import Derived.Test.YtjhcphmehlihcaaUsA
import Derived.Test.YtjhcphmehlihcaaClone
namespace Go.Proofs.Ytjhcphmehlihcaa.RepC
open Go.RowKit RowC ValC SpanC KeptC NameC SortC Go.ChangeShapes Go.Maps
set_option linter.unusedVariables false
set_option linter.unusedSimpArgs false

/-- what the region of a round holds: the box, the map's block -/
def SU (H : Option Obj) (b g : Nat) (cs : Array Value) (V : World) : Prop := Blk V g 65 cs ∧ V.heap[b]? = H ∧ b < V.heap.size
theorem SU.call {H : Option Obj} {b g : Nat} {cs : Array Value} {V V' : World} (h : SU H b g cs V) (hb : Below V.heap.size V V') : SU H b g cs V' := ⟨h.1.call hb, (hb.block b h.2.2).trans h.2.1, Nat.lt_of_lt_of_le h.2.2 hb.size⟩
theorem SU.own {H : Option Obj} {b g : Nat} {cs : Array Value} {V V' : World} {o : Option Nat} (h : SU H b g cs V) (hb : V.grownBy V' o) (h1 : o ≠ some g) (h2 : o ≠ some b) : SU H b g cs V' := ⟨(hb.block g h.1.lt (fun e => h1 e.symm)).trans h.1, (hb.block b h.2.2 (fun e => h2 e.symm)).trans h.2.1, Nat.lt_of_lt_of_le h.2.2 hb.size⟩
theorem grow_low {w w' : World} {B : Nat} {o : Option Nat} (h : w.grownBy w' o) (hv : ∀ k, o = some k → B ≤ k) (hB : B ≤ w.heap.size) : Below B w w' :=
  ⟨h.os, h.tape, h.output, h.size, fun k hk => h.block k (Nat.lt_of_lt_of_le hk hB) (fun e => by have := hv k e.symm; omega)⟩
theorem size_Acc : R_Acc.size = 3 := rfl
def UsesC (F : AC → Option Int) (m : Nat) (w : World) (e : Ending) (w' : World) : Prop := ∃ xs, (AllOf F xs ∧ xs.Pairwise ltA ∧ xs.length ≤ m) ∧ NewS R_Use (xs.map (mkU F)) w e w'
theorem usesC_elim {F : AC → Option Int} {m : Nat} {w : World} {e : Ending} {w' : World} (h : UsesC F m w e w') : ∃ xs, (AllOf F xs ∧ xs.Pairwise ltA ∧ xs.length ≤ m) ∧ NewS R_Use (xs.map (mkU F)) w e w' := h
set_option maxRecDepth 100000 in
set_option maxHeartbeats 3200000 in
theorem tuses_impl (b nn : Nat) (hnn : nn ≤ 1000) (D : DataW Value) (F : AC → Option Int) (W : World) (hM : MpU W b nn D F) (h8 : ∀ a, WfA a → (F a).isSome = true → a.2.size ≤ 8000) :
    Calls Try.prog 45 #[.map (some b)] W (UsesC F nn W) := by
  have HO := Lib.hid (order_impl b nn hnn D F W hM)
  have HM := Lib.hid hM
  have H8A := Lib.hid h8
  have hbw := hM.lt
  clear hM h8
  go_enter Try.func45, Try.ntmps45
  go_wp2_with fail
  refine HO.out.mono ?_
  clear HO
  intro e W1 h
  obtain ⟨xs, a, c, rfl, h1, h2, h3⟩ := ordR_elim h
  have HA := Lib.hid h1
  have HX := Lib.hid h2
  have HBW := Lib.hid h3
  have hxn := h1.2.2
  have hzw := h3.size
  clear h h1 h2 h3
  go_wp2_with fail
  go_loopw [9, 3] (fun i q wr => ∃ k : Nat, k ≤ xs.length ∧ i = .int .i64 k ∧ Hid (URow wr W1.heap.size q ((xs.take k).map (mkU F))) ∧ Below W1.heap.size W1 wr) (fun i _ _ => xs.length - (intOf i).toNat)
  case atStart => exact ⟨0, Nat.zero_le _, rfl, Lib.hid (URow.none_ W1), Below.refl _ _⟩
  case round =>
    obtain ⟨v, rfl⟩ : ∃ x, x = u3 := ⟨_, rfl⟩
    obtain ⟨k, hk, rfl, HR, hB⟩ := hrel
    obtain ⟨wo, rfl⟩ : ∃ x, x = wr := ⟨_, rfl⟩
    have HB := Lib.hid hB
    have hsz := hB.size
    by_cases hlt : k < xs.length
    · skip
      obtain ⟨⟨⟨x0, x1⟩, x2⟩, hx⟩ := el_some hlt
      obtain ⟨g, o, us, rfl, hg, hu, hr⟩ := (HX.out.below R_Acc_ok hB).at_ hx
      obtain ⟨rfl, b_x2⟩ := rd_Acc hr
      have e0 : wo.cell? ⟨g, o + k * 3, none⟩ = some (.int .i64 x0) := by simpa [size_Acc, Nat.add_assoc] using hu 0 _ rfl
      have e1 : wo.cell? ⟨g, o + k * 3 + 1, none⟩ = some (.int .i64 x1) := by simpa [size_Acc, Nat.add_assoc] using hu 1 _ rfl
      have e2 : wo.cell? ⟨g, o + k * 3 + 2, none⟩ = some (.string x2) := by simpa [size_Acc, Nat.add_assoc] using hu 2 _ rfl
      have hi0 : (0 : Int) ≤ (k : Int) := Int.natCast_nonneg _
      have hi1 : (k : Int) < (xs.length : Int) := by omega
      have HW := Lib.hid (HA.out.1.2.1 _ (List.mem_of_getElem? hx))
      have H8 := Lib.hid (H8A.out _ HW.out ((HA.out.1.2.2 _ HW.out).1 (List.mem_of_getElem? hx)))
      have HTK := Lib.hid (show (xs.take k).map (mkU F) ++ [((x0, x1), x2, (F ((x0, x1), x2)).getD 0)] = (xs.take (k + 1)).map (mkU F) from by rw [List.take_add_one, hx]; simp [mkU])
      have HLEN := Lib.hid (show ((xs.take k).map (mkU F)).length ≤ 1000000 from by rw [List.length_map, List.length_take]; omega)
      have HSL := Lib.hid b_x2
      have HMO := Lib.hid (HM.out.keep ((hB.block b (Nat.lt_of_lt_of_le hbw hzw)).trans (HBW.out.block b hbw)))
      obtain ⟨w1, hw1⟩ : ∃ w, w = wo.alloc (.cells #[.int .i64 x0, .int .i64 x1, .string x2] 65) := ⟨_, rfl⟩
      have hbA : Below wo.heap.size wo w1 := by rw [hw1]; exact (Below.refl _ _).alloc (Nat.le_refl _) _
      have HP1 := Lib.hid (show Blk w1 wo.heap.size 65 #[.int .i64 x0, .int .i64 x1, .string x2] from by rw [hw1]; exact Blk.new _ _ _)
      have HR1 := Lib.hid ((HR.out.call hbA).call ((Below.refl w1.heap.size w1).drew))
      have HNG := Lib.hid (show v.ownBlock ≠ some wo.heap.size from fun e => by have := (HR.out.blk e).2; omega)
      have HNM := Lib.hid (show v.ownBlock ≠ some b from fun e => by have := (HR.out.blk e).1; omega)
      have HB1 := Lib.hid (HB.out.trans (hbA.mono hsz)).drew
      have HZ1 := Lib.hid HB1.out.size
      have HS1 := Lib.hid (show SU (wo.heap[b]?) b wo.heap.size #[.int .i64 x0, .int .i64 x1, .string x2] w1.drew from ⟨HP1.out, hbA.block b (by omega), Nat.lt_of_lt_of_le (show b < wo.heap.size by omega) hbA.size⟩)
      clear hu hr hg hB hx b_x2
      go_wp2_with fail
      rw [← hw1]
      clear hw1 hbA e0 e1 e2
      refine wp_region_held_drew (S := (fun V => SU (wo.heap[b]?) b wo.heap.size #[.int .i64 x0, .int .i64 x1, .string x2] V)) (by kernel_rfl) (HS1.out) (fun hHeld => ?_)
      refine tk 0 hHeld ?_
      refine tk 1 hHeld ?_
      refine tk 2 hHeld ?_ (hy := fun w hSw => by (try dsimp only at hSw); have k0 := hSw.1.at_ 0 rfl; have k1 := hSw.1.at_ 1 rfl; clear hSw; go_simp; try with_reducible rfl)
      refine tk 3 hHeld ?_
      refine tk 4 hHeld ?_ (hy := fun w hSw => by (try dsimp only at hSw); have k0 := hSw.1.at_ 2 rfl; clear hSw; go_simp; try with_reducible rfl)
      refine tk 6 hHeld ?_
      refine tk 7 hHeld ?_ (hy := fun w hSw => by (try dsimp only at hSw); have k0 := hSw.1.at_ 0 rfl; have k1 := hSw.1.at_ 1 rfl; have k2 := hSw.1.at_ 2 rfl; clear hSw; go_simp; try with_reducible rfl)
      refine rd2 5 8 (fun K hK => ?_) (fun K hK => ?_)
      · skip
        go_simp
        go_at_call 64
        refine (CloneC.clone_any x2 _ H8.out).mono ?_
        rintro e w2 ⟨rfl, hb2⟩
        have HR2 := Lib.hid (HR1.out.call hb2)
        have HB2 := Lib.hid (HB1.out.trans (hb2.mono (show W1.heap.size ≤ w1.drew.heap.size from HZ1.out)))
        refine hK.out _ _ (hHeld.call hb2) (fun hHeld => ?_)
        clear hb2
        clear hK K
        refine rd1 8 (fun K hK => ?_)
        have hlk := (show (Instr.lookup 62 (.map (some b)) (.agg #[.int .i64 x0, .int .i64 x1, .string x2]) false).run Try.prog _ = .ok (.int .i64 ((F ((x0, x1), x2)).getD 0)) _ from (HMO.out.keep hHeld.2.1).look HW.out)
        go_simp
        refine hK.out _ _ hHeld (fun hHeld => ?_)
        clear hlk
        clear hK K
        refine tk 9 hHeld ?_
        refine rd1 10 (fun K hK => ?_)
        go_simp
        have hbl : Below w2.heap.size w2 (w2.alloc (.cells #[.int .i64 x0, .int .i64 x1, .string x2, .int .i64 ((F ((x0, x1), x2)).getD 0)] 68)) := (Below.refl _ _).alloc (Nat.le_refl _) _
        refine hK.out _ _ (hHeld.call hbl) (fun hHeld => ?_)
        obtain ⟨w3, hw3⟩ : ∃ w, w = w2.alloc (.cells #[.int .i64 x0, .int .i64 x1, .string x2, .int .i64 ((F ((x0, x1), x2)).getD 0)] 68) := ⟨_, rfl⟩
        have HP3 := Lib.hid (show Blk w3 w2.heap.size 68 #[.int .i64 x0, .int .i64 x1, .string x2, .int .i64 ((F ((x0, x1), x2)).getD 0)] from by rw [hw3]; exact Blk.new _ _ _)
        rw [← hw3] at hbl hHeld ⊢
        clear hw3
        have HR3 := Lib.hid (HR2.out.call hbl)
        have HB3 := Lib.hid (HB2.out.trans (hbl.mono HB2.out.size))
        have HNO3 := Lib.hid (fun j (hj : v.ownBlock = some j) => HR3.out.blk hj)
        clear hbl
        clear hK K
        refine rd1 11 (fun K hK => ?_)
        obtain ⟨v', w4, hrun, hrow, hgr⟩ := HR3.out.app1 (c := 1) HP3.out HSL.out HLEN.out
        have HR4 := Lib.hid hrow
        have HG := Lib.hid hgr
        have HB4 := Lib.hid (HB3.out.trans (grow_low HG.out (fun j hj => (HNO3.out j hj).1) HB3.out.size))
        have HQ := Lib.hid hrun
        clear hrow hgr hrun
        refine step_app rfl (.tmp 13) (.tmp 23) 23 rfl rfl rfl HQ.out ?_
        refine hK.out _ _ (hHeld.own HG.out HNG.out HNM.out) (fun hHeld => ?_)
        clear hK K
        refine tk 12 hHeld ?_
        refine rd0 ?_
        clear hHeld HQ HG HP3 HNO3
        go_wp2
        go_roundw
        case rel => exact ⟨k + 1, by omega, by go_num, Lib.hid (by rw [← HTK.out]; exact HR4.out), HB4.out⟩
        case measure => simp [intOf]; omega
      · skip
        have hlk := (show (Instr.lookup 62 (.map (some b)) (.agg #[.int .i64 x0, .int .i64 x1, .string x2]) false).run Try.prog _ = .ok (.int .i64 ((F ((x0, x1), x2)).getD 0)) _ from (HMO.out.keep hHeld.2.1).look HW.out)
        go_simp
        refine hK.out _ _ hHeld (fun hHeld => ?_)
        clear hlk
        clear hK K
        refine rd1 5 (fun K hK => ?_)
        go_simp
        go_at_call 64
        refine (CloneC.clone_any x2 _ H8.out).mono ?_
        rintro e w2 ⟨rfl, hb2⟩
        have HR2 := Lib.hid (HR1.out.call hb2)
        have HB2 := Lib.hid (HB1.out.trans (hb2.mono (show W1.heap.size ≤ w1.drew.heap.size from HZ1.out)))
        refine hK.out _ _ (hHeld.call hb2) (fun hHeld => ?_)
        clear hb2
        clear hK K
        refine tk 9 hHeld ?_
        refine rd1 10 (fun K hK => ?_)
        go_simp
        have hbl : Below w2.heap.size w2 (w2.alloc (.cells #[.int .i64 x0, .int .i64 x1, .string x2, .int .i64 ((F ((x0, x1), x2)).getD 0)] 68)) := (Below.refl _ _).alloc (Nat.le_refl _) _
        refine hK.out _ _ (hHeld.call hbl) (fun hHeld => ?_)
        obtain ⟨w3, hw3⟩ : ∃ w, w = w2.alloc (.cells #[.int .i64 x0, .int .i64 x1, .string x2, .int .i64 ((F ((x0, x1), x2)).getD 0)] 68) := ⟨_, rfl⟩
        have HP3 := Lib.hid (show Blk w3 w2.heap.size 68 #[.int .i64 x0, .int .i64 x1, .string x2, .int .i64 ((F ((x0, x1), x2)).getD 0)] from by rw [hw3]; exact Blk.new _ _ _)
        rw [← hw3] at hbl hHeld ⊢
        clear hw3
        have HR3 := Lib.hid (HR2.out.call hbl)
        have HB3 := Lib.hid (HB2.out.trans (hbl.mono HB2.out.size))
        have HNO3 := Lib.hid (fun j (hj : v.ownBlock = some j) => HR3.out.blk hj)
        clear hbl
        clear hK K
        refine rd1 11 (fun K hK => ?_)
        obtain ⟨v', w4, hrun, hrow, hgr⟩ := HR3.out.app1 (c := 1) HP3.out HSL.out HLEN.out
        have HR4 := Lib.hid hrow
        have HG := Lib.hid hgr
        have HB4 := Lib.hid (HB3.out.trans (grow_low HG.out (fun j hj => (HNO3.out j hj).1) HB3.out.size))
        have HQ := Lib.hid hrun
        clear hrow hgr hrun
        refine step_app rfl (.tmp 13) (.tmp 23) 23 rfl rfl rfl HQ.out ?_
        refine hK.out _ _ (hHeld.own HG.out HNG.out HNM.out) (fun hHeld => ?_)
        clear hK K
        refine tk 12 hHeld ?_
        refine rd0 ?_
        clear hHeld HQ HG HP3 HNO3
        go_wp2
        go_roundw
        case rel => exact ⟨k + 1, by omega, by go_num, Lib.hid (by rw [← HTK.out]; exact HR4.out), HB4.out⟩
        case measure => simp [intOf]; omega
    · have hdl : decide ((k : Int) < (xs.length : Int)) = false := decide_eq_false (by omega)
      obtain rfl : k = xs.length := by omega
      have HQ := Lib.hid HB
      clear hB
      go_wp2
      go_ret
      exact ⟨xs, HA.out, URow.news (by have := HR.out; rwa [List.take_length] at this) hzw (HBW.out.trans (HB.out.mono hzw))⟩
end Go.Proofs.Ytjhcphmehlihcaa.RepC
