/-
  DiskTrim as the statement asks
-/
import Derived.Test.YtdedomfocljhaaaDoorRows
import Derived.WalkKit
import Derived.ProofKit
import Derived.OpenShut
import Derived.Below
import Derived.Test.YtdedomfocljhaaaDoorZrY
import Derived.Test.YtdedomfocljhaaaDoorDsO
import Derived.Test.YtdedomfocljhaaaDoorStO
import Derived.Test.YtdedomfocljhaaaDoorLaid
import Derived.Test.YtdedomfocljhaaaDoorLift
import Derived.SevenTiedAt
import Derived.Test.YtdedomfocljhaaaDoorCards
import Derived.Test.YtdedomfocljhaaaDoorTie
import Derived.Test.YtdedomfocljhaaaDoorLaid
namespace Go.Proofs.YtdedomfocljhaaaDoor.fnExactDiskTrim
open Go.ChangeShapes Go.WideShapes Go.ChangeAt Go.RowKit
set_option linter.unusedVariables false

theorem own : ownKnob Tryd.prog.godebug = none := by kernel_rfl
theorem laidOut : laidOutB Tryd.prog = true := by kernel_rfl

set_option maxRecDepth 100000 in
theorem walk {H : Type} {enc : TypeId × Value → H} (W : World) (base : Nat) (v0 v1 : Value) (d0 d1 : DataW H) (p0 p1 : List MemPlace) (hL : laidMetH Tryd.prog [("errors.errorType", Rows.laid_errors_errorType)] W)
    (o0 : Value.okWide Tryd.prog W .any base 38 v0) (t0 : DataW.Trod enc Tryd.prog W 0 (fun _ => true) true 38 v0 d0 p0)
    (o1 : Value.okWide Tryd.prog W .any base 2 v1) (t1 : DataW.Trod enc Tryd.prog W 0 (fun _ => true) true 2 v1 d1 p1) :
    Calls Tryd.prog 5 #[v0, v1] W fun e w' => e = .returned (.bool true) ∧ Below W.heap.size W w' := by
  obtain ⟨L0, x1, a0, c0, rfl, h0⟩ := RepC.open_Disk o0 t0; obtain ⟨r, rfl, _⟩ := RepC.open_n64 o1 t1; exact RepC.law_trim h0 (LaidC.door_of_laid hL)

set_option maxRecDepth 100000 in
theorem lifted (os : Os) (started : os.Started) (H : Type) (enc : TypeId × Value → H) :
    ReturnsInHanded {} Tryd.checked os 5 .any (fun w args => (Rows.fnExactDiskTrimSpec.pre enc Tryd.prog Tryd.f5 [] false w args ∧ laidMetH Tryd.prog [("errors.errorType", Rows.laid_errors_errorType)] w) ∧ sizedMet enc Tryd.prog Tryd.f5 (OpenSpec.ofChange Rows.fnExactDiskTrimSpec) false w args) (Rows.fnExactDiskTrimSpec.post enc Tryd.prog Tryd.f5 false true false false) := by
  refine returnsInHanded_of_change_and (C := Tryd.checked) (X := fun w _ => laidMetH Tryd.prog [("errors.errorType", Rows.laid_errors_errorType)] w) (fun _ _ _ hh h => h.of_heap hh) own started (by kernel_rfl) Tryd.func5
    (ChangeSpec.witness_at (enc := enc) (C := Tryd.checked) (os := os) (X := fun w _ => laidMetH Tryd.prog [("errors.errorType", Rows.laid_errors_errorType)] w) false (LaidC.laidWorld os) #[.agg #[.slice none 0 0, .int .i64 0], .int .i64 0] 20 rfl (by kernel_rfl) (by kernel_rfl) (by kernel_rfl) (by kernel_rfl) (by kernel_rfl) (LaidC.laidWorld_met os _)) ?_
  intro W base args ds gs before hval0 hW hcnd _ hL _
  have hval : ∀ (j : Nat) t v, Tryd.f5.params[j]? = some t → args[j]? = some v → Value.okWide Tryd.prog W .any base t v := hval0
  have hW' := hW
  obtain ⟨p, q, hA0, hV, rfl, hfz, hnd⟩ := hW
  have hA : DataW.TrodAll enc Tryd.prog W 0 (fun _ => true) true Tryd.f5.params.toList args.toList ds p := hA0
  rw [Tryd.params5] at hA hval
  obtain ⟨v0, vs0, d0, ds0, p0, q0, hargs, rfl, rfl, t0, r0⟩ := trodAll_cons hA
  obtain ⟨v1, vs1, d1, ds1, p1, q1, rfl, rfl, rfl, t1, r1⟩ := trodAll_cons r0
  obtain ⟨rfl, rfl, rfl⟩ := trodAll_nil r1
  obtain rfl : args = #[v0, v1] := by cases args; simp_all
  obtain ⟨rfl, rfl⟩ := trodVars_none hV
  clear hA0 hval0
  exact (walk W base v0 v1 d0 d1 p0 p1 hL (hval 0 38 v0 rfl rfl) t0 (hval 1 2 v1 rfl rfl) t1).mono fun e W' ⟨he, hg⟩ => ⟨_, he, LiftL.post_law rfl laidOut (by kernel_rfl) (by kernel_rfl) rfl Tryd.underlying4 hW' hg⟩

theorem over : Rows.fnExactDiskTrimRow.holds Tryd.pinned (OpenSpec.ofChange Rows.fnExactDiskTrimSpec) :=
  OpenClaim.holds_of_wide 5 Tryd.f5 rfl rfl rfl rfl rfl rfl rfl ⟨rfl, rfl, rfl, rfl, rfl⟩ rfl rfl rfl rfl rfl (by kernel_rfl) Tryd.func5 (by kernel_rfl)
    (of_decide_eq_true (by kernel_rfl)) (by unfold Func.isWrapper; first | (rw [if_pos (by decide +kernel)]; kernel_rfl) | (rw [if_neg (by decide +kernel)]; exact ⟨rfl, rfl⟩))
    (fun os started H enc _ => lifted os started H enc)

theorem proved : Rows.FnExactDiskTrimCardSaid :=
  Claim7.holds_tied_plain_at .later [] [.handle] true (true, "74e89f46943155e8d439957e104d81ff26daeccb5b958a5b9cdec401170573a2") true
    over (fun _ h => by cases h) (by kernel_rfl) (fun _ h => by cases h) fnExactDiskTrim_row_tie rfl ⟨rfl, rfl⟩ (by kernel_rfl) rfl
    (fun f fn hf hfn => by
      obtain rfl : f = 5 := Option.some.inj ((show Tryd.prog.funcNamed "loop.example/g00658/laws.FnExactDiskTrim" = some 5 by kernel_rfl).symm.trans hf) |>.symm
      obtain rfl : fn = Tryd.f5 := (Option.some.inj (Tryd.func5.symm.trans hfn)).symm
      exact ⟨by kernel_rfl, fun j t ht => by
        rw [Tryd.params5] at ht
        have hm : t ∈ ([38, 2] : List TypeId) := by simpa using Array.mem_of_getElem? ht
        have hall : (([38, 2] : List TypeId).all fun u => !Tryd.prog.wantsStandIn u) = true := by kernel_rfl
        exact (show Tryd.prog.wantsStandIn t = false by simpa using List.all_eq_true.1 hall t hm)⟩)
    (by kernel_rfl)
end Go.Proofs.YtdedomfocljhaaaDoor.fnExactDiskTrim
