/-
  The law on MailSend.
-/
import Derived.Test.YtlgflddljhldhaaGreatPN32
import Derived.Test.YtlgflddljhldhaaGreatPN33
import Derived.Test.YtlgflddljhldhaaGreatRows
import Derived.WalkKit
import Derived.ProofKit
import Derived.OpenShut
import Derived.Below
namespace Go.Proofs.YtlgflddljhldhaaGreat.fnExactMailSend
open Go.ChangeShapes Go.WideShapes Go.ChangeAt Go.RowKit
set_option linter.unusedVariables false

theorem own : ownKnob Tryz.prog.godebug = none := by kernel_rfl
theorem laidOut : laidOutB Tryz.prog = true := by kernel_rfl

set_option maxRecDepth 100000 in
theorem walk {H : Type} {enc : TypeId × Value → H} (W : World) (base : Nat) (v0 v1 v2 v3 v4 v5 : Value) (d0 d1 d2 d3 d4 d5 : DataW H) (p0 p1 p2 p3 p4 p5 : List MemPlace)
    (o0 : Value.okWide Tryz.prog W .any base 26 v0) (t0 : DataW.Trod enc Tryz.prog W 0 (fun _ => true) true 26 v0 d0 p0)
    (o1 : Value.okWide Tryz.prog W .any base 29 v1) (t1 : DataW.Trod enc Tryz.prog W 0 (fun _ => true) true 29 v1 d1 p1)
    (o2 : Value.okWide Tryz.prog W .any base 31 v2) (t2 : DataW.Trod enc Tryz.prog W 0 (fun _ => true) true 31 v2 d2 p2)
    (o3 : Value.okWide Tryz.prog W .any base 31 v3) (t3 : DataW.Trod enc Tryz.prog W 0 (fun _ => true) true 31 v3 d3 p3)
    (o4 : Value.okWide Tryz.prog W .any base 2 v4) (t4 : DataW.Trod enc Tryz.prog W 0 (fun _ => true) true 2 v4 d4 p4)
    (o5 : Value.okWide Tryz.prog W .any base 2 v5) (t5 : DataW.Trod enc Tryz.prog W 0 (fun _ => true) true 2 v5 d5 p5) :
    Calls Tryz.prog 3 #[v0, v1, v2, v3, v4, v5] W fun e w' => e = .returned (.bool true) ∧ Below W.heap.size W w' := by
  obtain ⟨L0, L1, L2, x3, a0, c0, a1, c1, a2, c2, rfl, h0⟩ := RepC.open_Config o0 t0; obtain ⟨M, a3, c3, rfl, h1⟩ := RepC.open_Mail o1 t1; obtain ⟨f0, f1, rfl⟩ := RepC.open_lab2 o2 t2; obtain ⟨g0, g1, rfl⟩ := RepC.open_lab2 o3 t3; obtain ⟨n, rfl⟩ := RepC.open_n64 o4 t4; obtain ⟨k, rfl⟩ := RepC.open_n64 o5 t5; exact RepC.law_mailsend h0 h1

set_option maxRecDepth 100000 in
theorem lifted (os : Os) (started : os.Started) (H : Type) (enc : TypeId × Value → H) :
    ReturnsInHanded {} Tryz.checked os 3 .any (Rows.fnExactMailSendSpec.pre6 enc Tryz.prog Tryz.f3 Rows.fnExactMailSendRow.domain false) (Rows.fnExactMailSendSpec.post enc Tryz.prog Tryz.f3 false true false false) := by
  refine returnsInHanded_of_change (C := Tryz.checked) own started (by kernel_rfl) Tryz.func3
    (ChangeSpec.witness6 (enc := enc) (C := Tryz.checked) false ⟨#[], #[.agg #[.slice none 0 0, .slice none 0 0, .slice none 0 0, .int .i64 0], .agg #[.slice none 0 0], .agg #[.int .i64 0, .int .i64 0], .agg #[.int .i64 0, .int .i64 0], .int .i64 0, .int .i64 0], []⟩ 20 (by kernel_rfl) (by kernel_rfl) (by kernel_rfl) (by kernel_rfl)) ?_
  intro W base args ds gs before hval0 hW hcnd _
  have hval : ∀ (j : Nat) t v, Tryz.f3.params[j]? = some t → args[j]? = some v → Value.okWide Tryz.prog W .any base t v := hval0
  have hW' := hW
  obtain ⟨p, q, hA0, hV, rfl, hfz, hnd⟩ := hW
  have hA : DataW.TrodAll enc Tryz.prog W 0 (fun _ => true) true Tryz.f3.params.toList args.toList ds p := hA0
  rw [Tryz.params3] at hA hval
  obtain ⟨v0, vs0, d0, ds0, p0, q0, hargs, rfl, rfl, t0, r0⟩ := trodAll_cons hA
  obtain ⟨v1, vs1, d1, ds1, p1, q1, rfl, rfl, rfl, t1, r1⟩ := trodAll_cons r0
  obtain ⟨v2, vs2, d2, ds2, p2, q2, rfl, rfl, rfl, t2, r2⟩ := trodAll_cons r1
  obtain ⟨v3, vs3, d3, ds3, p3, q3, rfl, rfl, rfl, t3, r3⟩ := trodAll_cons r2
  obtain ⟨v4, vs4, d4, ds4, p4, q4, rfl, rfl, rfl, t4, r4⟩ := trodAll_cons r3
  obtain ⟨v5, vs5, d5, ds5, p5, q5, rfl, rfl, rfl, t5, r5⟩ := trodAll_cons r4
  obtain ⟨rfl, rfl, rfl⟩ := trodAll_nil r5
  obtain rfl : args = #[v0, v1, v2, v3, v4, v5] := by cases args; simp_all
  obtain ⟨rfl, rfl⟩ := trodVars_none hV
  clear hA0 hval0
  exact (walk W base v0 v1 v2 v3 v4 v5 d0 d1 d2 d3 d4 d5 p0 p1 p2 p3 p4 p5 (hval 0 26 v0 rfl rfl) t0 (hval 1 29 v1 rfl rfl) t1 (hval 2 31 v2 rfl rfl) t2 (hval 3 31 v3 rfl rfl) t3 (hval 4 2 v4 rfl rfl) t4 (hval 5 2 v5 rfl rfl) t5).mono fun e W' ⟨he, hg⟩ => ⟨_, he, LiftL.post_law rfl laidOut (by kernel_rfl) (by kernel_rfl) rfl Tryz.underlying4 hW' hg⟩

theorem proved : Rows.FnExactMailSendSaid :=
  OpenClaim.holds_of_wide 3 Tryz.f3 rfl rfl rfl rfl rfl rfl rfl ⟨rfl, rfl, rfl, rfl, rfl⟩ rfl rfl rfl rfl rfl (by kernel_rfl) Tryz.func3 (by kernel_rfl)
    (of_decide_eq_true (by kernel_rfl)) (by unfold Func.isWrapper; first | (rw [if_pos (by decide +kernel)]; kernel_rfl) | (rw [if_neg (by decide +kernel)]; exact ⟨rfl, rfl⟩))
    (fun os started H enc _ => lifted os started H enc)
end Go.Proofs.YtlgflddljhldhaaGreat.fnExactMailSend
