/- The law on DeskWords: its walk. -/
import Derived.Test.YtphklknaagjmpaaGreatDoorDwW
namespace Go.Proofs.YtphklknaagjmpaaGreatDoor.StrC
open Go.RowKit RowC ValC
set_option linter.unusedSimpArgs false
set_option linter.unusedVariables false
set_option maxRecDepth 100000

set_option maxHeartbeats 3200000 in
theorem law_words (W : World) : Calls Tryz.prog 6 #[] W fun e w' => e = .returned (.bool true) ∧ Below W.heap.size W w' := by
  go_enter Tryz.func6, Tryz.ntmps6
  go_wp2_with fail
  refine (words_spec W).mono ?_
  rintro e w1 ⟨v0, rfl, h0, hb⟩
  have H0 := Lib.hid h0
  have HB := Lib.hid hb
  have hz1 := hb.size
  clear h0 hb
  go_wp2_with fail
  refine (words_impl w1).mono ?_
  rintro e w2 ⟨v1, rfl, hg, hb⟩
  have HG := Lib.hid hg
  have H0 := Lib.hid (H0.out.below hb)
  have HB := Lib.hid (HB.out.trans (hb.mono hz1))
  have hz2 := hb.size
  clear hg hb
  go_wp2_with fail
  refine (eqStr_v (by omega) HG.out H0.out (fun _ _ => rfl)).mono ?_
  intro e w3 h
  obtain ⟨rfl, hb⟩ := isB_elim h
  have HG := Lib.hid (HG.out.below hb)
  have H0 := Lib.hid (H0.out.below hb)
  have HB := Lib.hid (HB.out.trans (hb.mono (by omega)))
  have hz3 := hb.size
  clear h hb
  go_wp2_with fail
  refine (markStr_v (k := 1) (by omega) (by omega) (by omega) HG.out).mono ?_
  intro e w4 h
  obtain ⟨rfl, hg, hoff⟩ := marks_elim h
  have HG := Lib.hid hg
  have H0 := Lib.hid (H0.out.off hoff (fun k hk hk2 => by unfold Rg at hk hk2; omega))
  have HB := Lib.hid (HB.out.trans (hoff.below (B := W.heap.size) (by omega) (fun k hk => by unfold Rg at hk; omega)))
  have hz4 := hoff.size
  clear h hg hoff
  go_wp2_with fail
  refine (heldStr_v (k := 1) (by omega) (by omega) (by omega) HG.out).mono ?_
  rintro e w5 ⟨rfl, hb⟩
  have HG := Lib.hid (HG.out.below hb)
  have H0 := Lib.hid (H0.out.below hb)
  have HB := Lib.hid (HB.out.trans (hb.mono (by omega)))
  have hz5 := hb.size
  clear hb
  go_wp2_with fail
  refine (words_impl w5).mono ?_
  rintro e w6 ⟨v2, rfl, hg, hb⟩
  have HH := Lib.hid hg
  have HG := Lib.hid (HG.out.below hb)
  have H0 := Lib.hid (H0.out.below hb)
  have HB := Lib.hid (HB.out.trans (hb.mono (by omega)))
  have hz6 := hb.size
  clear hg hb
  go_wp2_with fail
  refine (eqStr_v (by omega) HH.out H0.out (fun _ _ => rfl)).mono ?_
  intro e w7 h
  obtain ⟨rfl, hb⟩ := isB_elim h
  have HG := Lib.hid (HG.out.below hb)
  have HB := Lib.hid (HB.out.trans (hb.mono (by omega)))
  have hz7 := hb.size
  clear h hb
  go_wp2_with fail
  refine (heldStr_v (k := 1) (by omega) (by omega) (by omega) HG.out).mono ?_
  rintro e w8 ⟨rfl, hb⟩
  have HB := Lib.hid (HB.out.trans (hb.mono (by omega)))
  clear hb
  go_wp2
  go_ret
  exact ⟨rfl, HB.out⟩
end Go.Proofs.YtphklknaagjmpaaGreatDoor.StrC
