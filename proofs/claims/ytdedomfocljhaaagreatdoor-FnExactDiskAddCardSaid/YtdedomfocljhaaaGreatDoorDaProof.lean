/-
  DiskAdd as the statement asks
-/
import Derived.Test.YtdedomfocljhaaaGreatDoorRows
import Derived.WalkKit
import Derived.ProofKit
import Derived.OpenShut
import Derived.Below
import Derived.Test.YtdedomfocljhaaaGreatDoorZrZ
import Derived.Test.YtdedomfocljhaaaGreatDoorDsO
import Derived.Test.YtdedomfocljhaaaGreatDoorFrO
import Derived.Test.YtdedomfocljhaaaGreatDoorStO
import Derived.Test.YtdedomfocljhaaaGreatDoorLaid
import Derived.Test.YtdedomfocljhaaaGreatDoorLift
import Derived.SevenTiedAt
import Derived.Test.YtdedomfocljhaaaGreatDoorCards
import Derived.Test.YtdedomfocljhaaaGreatDoorTie
import Derived.Test.YtdedomfocljhaaaGreatDoorLaid
namespace Go.Proofs.YtdedomfocljhaaaGreatDoor.fnExactDiskAdd
open Go.ChangeShapes Go.WideShapes Go.ChangeAt Go.RowKit
set_option linter.unusedVariables false

theorem own : ownKnob Tryz.prog.godebug = none := by kernel_rfl
theorem laidOut : laidOutB Tryz.prog = true := by kernel_rfl

set_option maxRecDepth 100000 in
theorem walk {H : Type} {enc : TypeId × Value → H} (W : World) (base : Nat) (v0 v1 v2 : Value) (d0 d1 d2 : DataW H) (p0 p1 p2 : List MemPlace) (hL : laidMetH Tryz.prog [("errors.errorType", Rows.laid_errors_errorType)] W)
    (o0 : Value.okWide Tryz.prog W .any base 24 v0) (t0 : DataW.Trod enc Tryz.prog W 0 (fun _ => true) true 24 v0 d0 p0)
    (o1 : Value.okWide Tryz.prog W .any base 2 v1) (t1 : DataW.Trod enc Tryz.prog W 0 (fun _ => true) true 2 v1 d1 p1)
    (o2 : Value.okWide Tryz.prog W .any base 26 v2) (t2 : DataW.Trod enc Tryz.prog W 0 (fun _ => true) true 26 v2 d2 p2) :
    Calls Tryz.prog 3 #[v0, v1, v2] W fun e w' => e = .returned (.bool true) ∧ Below W.heap.size W w' := by
  obtain ⟨L0, x1, a0, c0, rfl, h0⟩ := RepC.open_Disk o0 t0; obtain ⟨r, rfl, _⟩ := RepC.open_n64 o1 t1; obtain ⟨x3, x4, rfl, h3⟩ := RepC.open_Frame o2 t2; exact RepC.law_dadd h0 h3 (LaidC.door_of_laid hL)

set_option maxRecDepth 100000 in
theorem lifted (os : Os) (started : os.Started) (H : Type) (enc : TypeId × Value → H) :
    ReturnsInHanded {} Tryz.checked os 3 .any (fun w args => (Rows.fnExactDiskAddSpec.pre enc Tryz.prog Tryz.f3 [] false w args ∧ laidMetH Tryz.prog [("errors.errorType", Rows.laid_errors_errorType)] w) ∧ sizedMet enc Tryz.prog Tryz.f3 (OpenSpec.ofChange Rows.fnExactDiskAddSpec) false w args) (Rows.fnExactDiskAddSpec.post enc Tryz.prog Tryz.f3 false true false false) := by
  refine returnsInHanded_of_change_and (C := Tryz.checked) (X := fun w _ => laidMetH Tryz.prog [("errors.errorType", Rows.laid_errors_errorType)] w) (fun _ _ _ hh h => h.of_heap hh) own started (by kernel_rfl) Tryz.func3
    (ChangeSpec.witness_at (enc := enc) (C := Tryz.checked) (os := os) (X := fun w _ => laidMetH Tryz.prog [("errors.errorType", Rows.laid_errors_errorType)] w) false (LaidC.laidWorld os) #[.agg #[.slice none 0 0, .int .i64 0], .int .i64 0, .agg #[.int .i64 0, .string ByteArray.empty]] 20 rfl (by kernel_rfl) (by kernel_rfl) (by kernel_rfl) (by kernel_rfl) (by kernel_rfl) (LaidC.laidWorld_met os _)) ?_
  intro W base args ds gs before hval0 hW hcnd _ hL _
  have hval : ∀ (j : Nat) t v, Tryz.f3.params[j]? = some t → args[j]? = some v → Value.okWide Tryz.prog W .any base t v := hval0
  have hW' := hW
  obtain ⟨p, q, hA0, hV, rfl, hfz, hnd⟩ := hW
  have hA : DataW.TrodAll enc Tryz.prog W 0 (fun _ => true) true Tryz.f3.params.toList args.toList ds p := hA0
  rw [Tryz.params3] at hA hval
  obtain ⟨v0, vs0, d0, ds0, p0, q0, hargs, rfl, rfl, t0, r0⟩ := trodAll_cons hA
  obtain ⟨v1, vs1, d1, ds1, p1, q1, rfl, rfl, rfl, t1, r1⟩ := trodAll_cons r0
  obtain ⟨v2, vs2, d2, ds2, p2, q2, rfl, rfl, rfl, t2, r2⟩ := trodAll_cons r1
  obtain ⟨rfl, rfl, rfl⟩ := trodAll_nil r2
  obtain rfl : args = #[v0, v1, v2] := by cases args; simp_all
  obtain ⟨rfl, rfl⟩ := trodVars_none hV
  clear hA0 hval0
  exact (walk W base v0 v1 v2 d0 d1 d2 p0 p1 p2 hL (hval 0 24 v0 rfl rfl) t0 (hval 1 2 v1 rfl rfl) t1 (hval 2 26 v2 rfl rfl) t2).mono fun e W' ⟨he, hg⟩ => ⟨_, he, LiftL.post_law rfl laidOut (by kernel_rfl) (by kernel_rfl) rfl Tryz.underlying4 hW' hg⟩

theorem j10 : (Rows.fnExactDiskAddRow.inPlace == Tryz.prog.inPlace 3) = true := by kernel_rfl
theorem j11 : (Rows.fnExactDiskAddRow.unfollowed == Tryz.prog.unfollowed 3) = true := by kernel_rfl
theorem j12 : (Rows.fnExactDiskAddRow.recurses == Tryz.prog.recurses 3) = true := by kernel_rfl
theorem j13 : (Rows.fnExactDiskAddRow.named == Tryz.prog.varsNamed 3) = true := by kernel_rfl
theorem closed : joinedFacts Tryz.prog 3 Tryz.f3 Rows.fnExactDiskAddSpec Rows.fnExactDiskAddRow = true := by
  unfold joinedFacts
  rw [j10, j11, j12, j13]
  kernel_rfl

theorem over : Rows.fnExactDiskAddRow.holds Tryz.pinned (OpenSpec.ofChange Rows.fnExactDiskAddSpec) :=
  OpenClaim.holds_of_wide 3 Tryz.f3 rfl rfl rfl rfl rfl rfl rfl ⟨rfl, rfl, rfl, rfl, rfl⟩ rfl rfl rfl rfl rfl (by kernel_rfl) Tryz.func3 closed
    (of_decide_eq_true (by kernel_rfl)) (by unfold Func.isWrapper; first | (rw [if_pos (by decide +kernel)]; kernel_rfl) | (rw [if_neg (by decide +kernel)]; exact ⟨rfl, rfl⟩))
    (fun os started H enc _ => lifted os started H enc)

theorem proved : Rows.FnExactDiskAddCardSaid :=
  Claim7.holds_tied_plain_at .later [] [.handle] true (true, "b414a51d756243b98b70823151ca1ddaa547ca781b7c82c1ca25a0026bf30e8b") true
    over (fun _ h => by cases h) (by kernel_rfl) (fun _ h => by cases h) fnExactDiskAdd_row_tie rfl ⟨rfl, rfl⟩ (by kernel_rfl) rfl
    (fun f fn hf hfn => by
      obtain rfl : f = 3 := Option.some.inj ((show Tryz.prog.funcNamed "loop.example/g00658/laws.FnExactDiskAdd" = some 3 by kernel_rfl).symm.trans hf) |>.symm
      obtain rfl : fn = Tryz.f3 := (Option.some.inj (Tryz.func3.symm.trans hfn)).symm
      exact ⟨by kernel_rfl, fun j t ht => by
        rw [Tryz.params3] at ht
        have hm : t ∈ ([24, 2, 26] : List TypeId) := by simpa using Array.mem_of_getElem? ht
        have hall : (([24, 2, 26] : List TypeId).all fun u => !Tryz.prog.wantsStandIn u) = true := by kernel_rfl
        exact (show Tryz.prog.wantsStandIn t = false by simpa using List.all_eq_true.1 hall t hm)⟩)
    (by kernel_rfl)
end Go.Proofs.YtdedomfocljhaaaGreatDoor.fnExactDiskAdd
