/- Of this claim's texts the part 5: DkU Tables ErrIs Sent DkP DkQ DkW0 LLat DnM DnR DkY. -/
import Derived.Test.YtphklknaagjmpaaDoorRows
import Derived.ProofKit
import Derived.OpenShut
import Derived.LaidMore
import Derived.LaidByTextLater
import Derived.Stop.Joined
import Derived.ChangeSame
import Derived.JoinedOf
import Derived.Test.YtphklknaagjmpaaDoorChecked
import Derived.WalkKit
import Derived.Below
import Derived.LaidEql
import Derived.Stop.Asserts
import Derived.RowKitTokens
import Derived.Lib.Hide
import Derived.Stop.LaidTwo
import Derived.Stop.ErrReads
import Derived.Stop.LaidErr
import Derived.Test.YtphklknaagjmpaaDoorPk4
section
namespace Go.Proofs.YtphklknaagjmpaaDoor.RepC
open Go.RowKit RowC ValC SpanC KeptC
set_option linter.unusedVariables false
set_option linter.unusedSimpArgs false
theorem LRow.ow {w : World} {lo : Nat} {a : Option Addr} {c : Nat} {L : List D_Letter} (h : LRow w lo (.slice a L.length c) L) : OwSl R_Letter w (fun k => (Value.slice a L.length c).ownBlock = some k) L a c := by
  obtain ⟨a', c', e, ho⟩ := h.sl R_Letter_ok flat_Letter
  cases e
  exact ho
theorem next_fin {P A : List D_Letter} {xa za : Option Addr} {xc zc : Nat} {w V : World} {lo g W0 : Nat} {m : Int} (hx : LRow w lo (.slice xa P.length xc) P) (hz : LRow w lo (.slice za A.length zc) A) (hd : ∀ k, (Value.slice xa P.length xc).ownBlock = some k → (Value.slice za A.length zc).ownBlock ≠ some k) (hoff : Off (fun k => k = g) w V) (hg : g < lo) (hW : W0 ≤ lo) :
    R_DeskStep.ow V (Rg W0 V.heap.size) ((P, [], A, 0, m), 0) [.slice xa P.length xc, .slice none 0 0, .slice za A.length zc, .int .i64 0, .int .i64 m, .int .i64 0] := by
  have hs := hoff.size
  refine mkow_DeskStep (T0 := fun k => (Value.slice xa P.length xc).ownBlock = some k) (T1 := fun _ => False) (T2 := fun k => (Value.slice za A.length zc).ownBlock = some k) (fun k hk => ?_) (fun k h => h.elim) (fun k hk => ?_) (fun k _ h => h) (fun k h1 h2 => hd k h1 h2) (fun k h => h.elim) (OwSl.keep R_Letter_ok hx.ow fun k hk => hoff.block k (hx.blk k hk).2 fun e => ?_) (nil_ow _ _) (OwSl.keep R_Letter_ok hz.ow fun k hk => hoff.block k (hz.blk k hk).2 fun e => ?_)
  · have := hx.blk k hk; unfold Rg; omega
  · have := hz.blk k hk; unfold Rg; omega
  · have := hx.blk k hk; subst e; omega
  · have := hz.blk k hk; subst e; omega
set_option maxRecDepth 100000 in
set_option maxHeartbeats 1000000 in
theorem nexttime_spec {P B A : List D_Letter} {pa ba aa : Option Addr} {pc bc ac : Nat} {u n : Int} {W : World} (hlen : P.length ≤ 1048576 ∧ B.length ≤ 1048576 ∧ A.length ≤ 1048576) (hP : RdSl R_Letter W W.heap.size P pa pc) (hB : RdSl R_Letter W W.heap.size B ba bc) (hA : RdSl R_Letter W W.heap.size A aa ac) : Calls Tryd.prog 11 #[.agg #[.slice pa P.length pc, .slice ba B.length bc, .slice aa A.length ac, .int .i64 u, .int .i64 n]] W (NewV R_DeskStep (nextG (P, B, A, u, n)) W) := by
  obtain ⟨hb0, hd0, hr0⟩ := bx2 W #[.slice pa P.length pc, .slice ba B.length bc, .slice aa A.length ac, .int .i64 u, .int .i64 n] #[.slice none 0 0, .slice none 0 0, .slice none 0 0, .int .i64 0, .int .i64 0, .int .i64 0] 25 31
  obtain ⟨w0, hw0⟩ : ∃ w, w = (W.alloc (.cells #[.slice pa P.length pc, .slice ba B.length bc, .slice aa A.length ac, .int .i64 u, .int .i64 n] 25)).alloc (.cells #[.slice none 0 0, .slice none 0 0, .slice none 0 0, .int .i64 0, .int .i64 0, .int .i64 0] 31) := ⟨_, rfl⟩
  rw [← hw0] at hb0 hd0 hr0
  have HB0 := Lib.hid hb0
  have HR0 := Lib.hid hr0
  have HD0 := Lib.hid hd0
  have HPw := Lib.hid (gmvS hP hb0)
  have HBw := Lib.hid (gmvS hB hb0)
  have HAw := Lib.hid (gmvS hA hb0)
  have hz0 := hb0.size
  clear hb0 hd0 hr0 hP hB hA
  obtain ⟨q1, Q1⟩ := nameB (DeskR P B A u n)
  go_enter Tryd.func11, Tryd.ntmps11
  go_wp2_with fail
  rw [← hw0]
  clear hw0
  refine ((box_spec HPw.out HBw.out HAw.out).mono (fun _ _ => resB_at Q1.out)).mono ?_
  rintro e w1 ⟨rfl, hb⟩
  have HB1 := Lib.hid (HB0.out.trans (hb.mono hz0))
  have hz1 := HB1.out.size
  have HR1 := Lib.hid (HR0.out.call hb)
  have HD1 := Lib.hid (HD0.out.call hb)
  replace HPw := Lib.hid (gmvS HPw.out hb)
  replace HBw := Lib.hid (gmvS HBw.out hb)
  replace HAw := Lib.hid (gmvS HAw.out hb)
  have qHR1_0 := HR1.out.at_ 0 rfl
  have qHR1_1 := HR1.out.at_ 1 rfl
  have qHR1_2 := HR1.out.at_ 2 rfl
  have qHR1_3 := HR1.out.at_ 3 rfl
  have qHR1_4 := HR1.out.at_ 4 rfl
  have qHR1_5 := HR1.out.at_ 5 rfl
  have sHR1_0 := HR1.out.soft 0
  have sHR1_1 := HR1.out.soft 1
  have sHR1_2 := HR1.out.soft 2
  have sHR1_3 := HR1.out.soft 3
  have sHR1_4 := HR1.out.soft 4
  have sHR1_5 := HR1.out.soft 5
  have qHD1_0 := HD1.out.at_ 0 rfl
  have qHD1_1 := HD1.out.at_ 1 rfl
  have qHD1_2 := HD1.out.at_ 2 rfl
  have qHD1_3 := HD1.out.at_ 3 rfl
  have qHD1_4 := HD1.out.at_ 4 rfl
  have hlt1 := HR1.out.lt
  clear hb
  cases q1 with
  | false =>
    have HG := Lib.hid (show nextG (P, B, A, u, n) = (zeroD, 1) from by unfold nextG; rw [if_neg (by rw [boxB_iff]; intro h; have := Q1.out.2 h; cases this)])
    go_wp2
    refine bodyPost_ret (v := .agg #[.slice none 0 0, .slice none 0 0, .slice none 0 0, .int .i64 0, .int .i64 0, .int .i64 1]) (by simp [results, Tryd.results11, go_sem, *]) rfl ?_
    rw [HG.out]
    exact ⟨_, rfl, step_ow 1, ((((((HB1.out.setCell (p := ⟨W.heap.size + 1, 0, none⟩) (Nat.le_succ _) (.slice none 0 0)).setCell (p := ⟨W.heap.size + 1, 1, none⟩) (Nat.le_succ _) (.slice none 0 0)).setCell (p := ⟨W.heap.size + 1, 2, none⟩) (Nat.le_succ _) (.slice none 0 0)).setCell (p := ⟨W.heap.size + 1, 3, none⟩) (Nat.le_succ _) (.int .i64 0)).setCell (p := ⟨W.heap.size + 1, 4, none⟩) (Nat.le_succ _) (.int .i64 0)).setCell (p := ⟨W.heap.size + 1, 5, none⟩) (Nat.le_succ _) (.int .i64 1))⟩
  | true =>
    have HY := Lib.hid (Q1.out.1 (by first | rfl | trivial))
    have hr := HY.out.2.1
    simp only [isB, Bool.and_eq_true, decide_eq_true_iff] at hr
    by_cases hn : n = 999900
    · have HG := Lib.hid (show nextG (P, B, A, u, n) = (zeroD, 9) from by unfold nextG; rw [if_pos (by rw [boxB_iff]; exact HY.out), if_pos hn])
      have hd : decide (n ≥ 999900) = true := decide_eq_true (by omega)
      clear hn hr
      go_wp2
      refine bodyPost_ret (v := .agg #[.slice none 0 0, .slice none 0 0, .slice none 0 0, .int .i64 0, .int .i64 0, .int .i64 9]) (by simp [results, Tryd.results11, go_sem, *]) rfl ?_
      rw [HG.out]
      exact ⟨_, rfl, step_ow 9, ((((((HB1.out.setCell (p := ⟨W.heap.size + 1, 0, none⟩) (Nat.le_succ _) (.slice none 0 0)).setCell (p := ⟨W.heap.size + 1, 1, none⟩) (Nat.le_succ _) (.slice none 0 0)).setCell (p := ⟨W.heap.size + 1, 2, none⟩) (Nat.le_succ _) (.slice none 0 0)).setCell (p := ⟨W.heap.size + 1, 3, none⟩) (Nat.le_succ _) (.int .i64 0)).setCell (p := ⟨W.heap.size + 1, 4, none⟩) (Nat.le_succ _) (.int .i64 0)).setCell (p := ⟨W.heap.size + 1, 5, none⟩) (Nat.le_succ _) (.int .i64 9))⟩
    · have HG := Lib.hid (show nextG (P, B, A, u, n) = ((P, [], A, 0, n + 1), 0) from by unfold nextG; rw [if_pos (by rw [boxB_iff]; exact HY.out), if_neg hn])
      have hd : decide (n ≥ 999900) = false := decide_eq_false (by omega)
      have hwr : IntKind.i64.wrap (n + 1) = n + 1 := IntWalk.i64_in _ (by omega)
      clear hn hr
      go_wp2_with fail
      refine (copy_spec ⟨by omega, by omega, by omega⟩ HPw.out HBw.out HAw.out).mono ?_
      intro e w2 h
      obtain ⟨xa, xc, ya, yc, za, zc, rfl, hx, hy, hz, hd1, hd2, hb⟩ := copyR_elim h
      have HB2 := Lib.hid (HB1.out.trans (hb.mono hz1))
      have hs12 := hb.size
      have HR2 := Lib.hid (HR1.out.call hb)
      have HD2 := Lib.hid (HD1.out.call hb)
      have HX := Lib.hid hx
      have HZ := Lib.hid hz
      have HDJ := Lib.hid hd1
      have hbo : Below w2.heap.size w2 (w2.alloc (.cells #[.slice xa P.length xc, .slice ya B.length yc, .slice za A.length zc, .int .i64 u, .int .i64 n] 25)) := (Below.refl _ _).alloc (Nat.le_refl _) _
      have hbo2 : Below w2.heap.size w2 (w2.alloc (.cells #[.slice xa P.length xc, .slice none 0 0, .slice za A.length zc, .int .i64 0, .int .i64 (n + 1)] 25)) := (Below.refl _ _).alloc (Nat.le_refl _) _
      have HD3 := Lib.hid (HD2.out.call hbo)
      have HR3 := Lib.hid (HR2.out.call hbo2)
      obtain ⟨wo, hwo⟩ : ∃ w, w = w2.alloc (.cells #[.slice xa P.length xc, .slice none 0 0, .slice za A.length zc, .int .i64 0, .int .i64 (n + 1)] 25) := ⟨_, rfl⟩
      have HB3 := Lib.hid (show Below W.heap.size W wo from hwo ▸ HB2.out.trans (hbo2.mono HB2.out.size))
      have HX3 := Lib.hid (show LRow wo w1.heap.size (.slice xa P.length xc) P from hwo ▸ HX.out.call hbo2)
      have HZ3 := Lib.hid (show LRow wo w1.heap.size (.slice za A.length zc) A from hwo ▸ HZ.out.call hbo2)
      have HWO := Lib.hid hwo
      have qHD2_0 := HD2.out.at_ 0 rfl
      have qHD2_1 := HD2.out.at_ 1 rfl
      have qHD2_2 := HD2.out.at_ 2 rfl
      have qHD2_3 := HD2.out.at_ 3 rfl
      have qHD2_4 := HD2.out.at_ 4 rfl
      have qHD3_0 := HD3.out.at_ 0 rfl
      have qHD3_1 := HD3.out.at_ 1 rfl
      have qHD3_2 := HD3.out.at_ 2 rfl
      have qHD3_3 := HD3.out.at_ 3 rfl
      have qHD3_4 := HD3.out.at_ 4 rfl
      have qHR3_0 := HR3.out.at_ 0 rfl
      have qHR3_1 := HR3.out.at_ 1 rfl
      have qHR3_2 := HR3.out.at_ 2 rfl
      have qHR3_3 := HR3.out.at_ 3 rfl
      have qHR3_4 := HR3.out.at_ 4 rfl
      have qHR3_5 := HR3.out.at_ 5 rfl
      have sHR3_0 := HR3.out.soft 0
      have sHR3_1 := HR3.out.soft 1
      have sHR3_2 := HR3.out.soft 2
      have sHR3_3 := HR3.out.soft 3
      have sHR3_4 := HR3.out.soft 4
      have sHR3_5 := HR3.out.soft 5
      clear h hx hy hz hd1 hd2 hb hbo hbo2 hwo
      go_wp2
      refine bodyPost_ret (v := .agg #[.slice xa P.length xc, .slice none 0 0, .slice za A.length zc, .int .i64 0, .int .i64 (n + 1), .int .i64 0]) (by simp [results, Tryd.results11, go_sem, *]) rfl ?_
      rw [HG.out, ← HWO.out]
      have hoff := (((((((Off.refl (fun x => x = W.heap.size + 1) wo).setCell (p := ⟨W.heap.size + 1, 0, none⟩) (rfl) (.slice xa P.length xc)).setCell (p := ⟨W.heap.size + 1, 1, none⟩) (rfl) (.slice none 0 0)).setCell (p := ⟨W.heap.size + 1, 2, none⟩) (rfl) (.slice za A.length zc)).setCell (p := ⟨W.heap.size + 1, 3, none⟩) (rfl) (.int .i64 0)).setCell (p := ⟨W.heap.size + 1, 4, none⟩) (rfl) (.int .i64 (n + 1))).setCell (p := ⟨W.heap.size + 1, 5, none⟩) (rfl) (.int .i64 0))
      exact ⟨_, rfl, next_fin HX3.out HZ3.out (fun k hk => (HDJ.out k hk).2) hoff hlt1 hz1, ((((((HB3.out.setCell (p := ⟨W.heap.size + 1, 0, none⟩) (Nat.le_succ _) (.slice xa P.length xc)).setCell (p := ⟨W.heap.size + 1, 1, none⟩) (Nat.le_succ _) (.slice none 0 0)).setCell (p := ⟨W.heap.size + 1, 2, none⟩) (Nat.le_succ _) (.slice za A.length zc)).setCell (p := ⟨W.heap.size + 1, 3, none⟩) (Nat.le_succ _) (.int .i64 0)).setCell (p := ⟨W.heap.size + 1, 4, none⟩) (Nat.le_succ _) (.int .i64 (n + 1))).setCell (p := ⟨W.heap.size + 1, 5, none⟩) (Nat.le_succ _) (.int .i64 0))⟩
end Go.Proofs.YtphklknaagjmpaaDoor.RepC
end
section
namespace Go.Proofs.YtphklknaagjmpaaDoor.TabC
open Go.ChangeShapes Go.WideShapes Go.RowKit
theorem plain_met {P : Program} {L : List (String × DataW Unit)} {W : World} (hp : (L.all fun x => x.2.handleName?.isNone) = true) (h : laidMetH P L W) : laidMet P L W := by
  rw [MakeChecks.laidMetH_plain _ _ _ hp] at h
  exact h
end Go.Proofs.YtphklknaagjmpaaDoor.TabC
end
section
namespace Go.Proofs.YtphklknaagjmpaaDoor.IsC
open Go.RowKit Go.Extern.Stop Go.Stop Go.Extern
def cmpF : TypeId → Sem Value := fun t => do Go.Extern.Rtype.noPackHeld "Comparable" t; pure (.bool (← typeInfo t).comparable)
theorem typeOf_ (v : Value) (w : World) : (Extern.ReflectliteType.typeOf #[.iface 109 v]).run Tryd.prog w = .ok (.iface 99 (.agg #[.pointer (some ⟨4, 109, none⟩)])) w := by kernel_rfl
theorem comparable_ (w : World) : ((Extern.ReflectliteType.method cmpF) #[.agg #[.pointer (some ⟨4, 109, none⟩)]]).run Tryd.prog w = .ok (.bool true) w := by kernel_rfl
theorem methodComparable (v : Value) (w : World) : (Go.method 249 99 v "Comparable").run Tryd.prog w = .ok (79, v) w := by kernel_rfl
theorem comp_ : (Tryd.prog.info? 109).map (·.comparable) = some true := by kernel_rfl
theorem size_ : (Tryd.prog.info? 137).map (·.size) = some 1 := by kernel_rfl
theorem noIsE (v : Value) (xT : TypeId) (w : World) : (Instr.typeAssert (.iface 109 v) xT 101 true).run Tryd.prog w = .ok (.tuple #[.nilIface, .bool false]) w := run_typeAssert_lacksB Tryd.underlying101 (by kernel_rfl) (by kernel_rfl) v xT w
theorem noUnwrapE (v : Value) (xT : TypeId) (w : World) : (Instr.typeAssert (.iface 109 v) xT 104 true).run Tryd.prog w = .ok (.tuple #[.nilIface, .bool false]) w := run_typeAssert_lacksB Tryd.underlying104 (by kernel_rfl) (by kernel_rfl) v xT w
theorem noUnwrapsE (v : Value) (xT : TypeId) (w : World) : (Instr.typeAssert (.iface 109 v) xT 106 true).run Tryd.prog w = .ok (.tuple #[.nilIface, .bool false]) w := run_typeAssert_lacksB Tryd.underlying106 (by kernel_rfl) (by kernel_rfl) v xT w
theorem eis_same (a : Addr) (w : World) :
    Calls Tryd.prog 53 #[.iface 109 (.pointer (some a)), .iface 109 (.pointer (some a)), .bool true] w fun e w' => e = .returned (.bool true) ∧ w' = w := by
  obtain ⟨i, hi, hcmp⟩ := Option.map_eq_some_iff.1 comp_
  obtain ⟨j, hj, hjs⟩ := Option.map_eq_some_iff.1 size_
  have heq := run_eql_iface_ptr_same (P := Tryd.prog) w a Tryd.underlying54 Tryd.underlying109 hi hcmp hj
  go_enter Tryd.func53, Tryd.ntmps53
  go_wp2
  refine wp_loop_rounds 1 ?_
  rw [rounds_succ]
  go_wp2
  go_ret
  exact ⟨rfl, rfl⟩
theorem eis_other (a b : Addr) (ca cb : Array Value) (ta tb : TypeId) (w : World) (hne : a ≠ b) (ha : w.heap[a.block]? = some (.cells ca ta (0, 0))) (hb : w.heap[b.block]? = some (.cells cb tb (0, 0))) :
    Calls Tryd.prog 53 #[.iface 109 (.pointer (some a)), .iface 109 (.pointer (some b)), .bool true] w fun e w' => e = .returned (.bool false) ∧ w' = w := by
  obtain ⟨i, hi, hcmp⟩ := Option.map_eq_some_iff.1 comp_
  obtain ⟨j, hj, hjs⟩ := Option.map_eq_some_iff.1 size_
  have nE := noIsE
  have uE := noUnwrapE
  have vE := noUnwrapsE
  have heq := run_eql_iface_ptr_other (P := Tryd.prog) w Tryd.underlying54 Tryd.underlying109 hi hcmp hj (by rw [hjs]; decide) hne ha hb
  go_enter Tryd.func53, Tryd.ntmps53
  go_wp2
  refine wp_loop_rounds 1 ?_
  rw [rounds_succ]
  go_wp2
  go_ret
  exact ⟨rfl, rfl⟩
theorem is_same (a : Addr) (w : World) :
    Calls Tryd.prog 49 #[.iface 109 (.pointer (some a)), .iface 109 (.pointer (some a))] w fun e w' => e = .returned (.bool true) ∧ w' = w := by
  have h8 := @run_callFunc_extern Tryd.prog 52 _ Extern.ReflectliteType.typeOf Tryd.func52 (by kernel_rfl) (by kernel_rfl) (by kernel_rfl) (by kernel_rfl)
  have h32 := @run_callFunc_extern Tryd.prog 79 _ (Extern.ReflectliteType.method cmpF) Tryd.func79 (by kernel_rfl) (by kernel_rfl) (by kernel_rfl) (by kernel_rfl)
  have tT := typeOf_
  have cT := comparable_
  have mR := methodComparable
  go_enter Tryd.func49, Tryd.ntmps49
  go_wp2_with (go_at_call 53; refine (eis_same a _).mono ?_; rintro e w' ⟨rfl, rfl⟩)
  go_ret
  exact ⟨rfl, rfl⟩
theorem is_other (a b : Addr) (ca cb : Array Value) (ta tb : TypeId) (w : World) (hne : a ≠ b) (ha : w.heap[a.block]? = some (.cells ca ta (0, 0))) (hb : w.heap[b.block]? = some (.cells cb tb (0, 0))) :
    Calls Tryd.prog 49 #[.iface 109 (.pointer (some a)), .iface 109 (.pointer (some b))] w fun e w' => e = .returned (.bool false) ∧ w' = w := by
  have h8 := @run_callFunc_extern Tryd.prog 52 _ Extern.ReflectliteType.typeOf Tryd.func52 (by kernel_rfl) (by kernel_rfl) (by kernel_rfl) (by kernel_rfl)
  have h32 := @run_callFunc_extern Tryd.prog 79 _ (Extern.ReflectliteType.method cmpF) Tryd.func79 (by kernel_rfl) (by kernel_rfl) (by kernel_rfl) (by kernel_rfl)
  have tT := typeOf_
  have cT := comparable_
  have mR := methodComparable
  go_enter Tryd.func49, Tryd.ntmps49
  go_wp2_with (go_at_call 53; refine (eis_other a b ca cb ta tb _ hne ha hb).mono ?_; rintro e w' ⟨rfl, rfl⟩)
  go_ret
  exact ⟨rfl, rfl⟩
end Go.Proofs.YtphklknaagjmpaaDoor.IsC
end
section
namespace Go.Proofs.YtphklknaagjmpaaDoor.SenC
open Go.RowKit
set_option linter.unusedVariables false
theorem laid4 {P : Program} {n0 n1 n2 n3 nm : String} {text0 text1 text2 text3 : List UInt8} {r : List (String × DataW Unit)} {W : World} {g0 g1 g2 g3 : Nat} {ti tp te ts : TypeId} {ms : Array (String × TypeId)} {f : Field}
    (h : laidMet P ((n0, .iface nm (.ptr (.agg [.lit (.string text0)]))) :: (n1, .iface nm (.ptr (.agg [.lit (.string text1)]))) :: (n2, .iface nm (.ptr (.agg [.lit (.string text2)]))) :: (n3, .iface nm (.ptr (.agg [.lit (.string text3)]))) :: r) W)
    (hg0 : P.globalNamed n0 = some g0) (ht0 : (P.globals[g0]?).map (·.type) = some ti) (hg1 : P.globalNamed n1 = some g1) (ht1 : (P.globals[g1]?).map (·.type) = some ti)
    (hg2 : P.globalNamed n2 = some g2) (ht2 : (P.globals[g2]?).map (·.type) = some ti) (hg3 : P.globalNamed n3 = some g3) (ht3 : (P.globals[g3]?).map (·.type) = some ti)
    (hi : P.underlying ti = some (.interface ms)) (hrow : ∀ u, P.typeName? 3 u = some nm → u = tp)
    (hp : P.underlying tp = some (.pointer te)) (he : P.underlying te = some (.struct #[f])) (hft : f.type = ts) (hfo : f.offset = 0) (hs : P.underlying ts = some .string) (hc : P.cellsOf te = 1) (hcs : P.cellsOf ts = 1) :
    ∃ (a0 a1 a2 a3 : Addr) (c0 c1 c2 c3 : Array Value) (t0 t1 t2 t3 : TypeId),
      W.cell? ⟨g0, 0, none⟩ = some (.iface tp (.pointer (some a0))) ∧ W.cell? ⟨g1, 0, none⟩ = some (.iface tp (.pointer (some a1))) ∧ W.cell? ⟨g2, 0, none⟩ = some (.iface tp (.pointer (some a2))) ∧ W.cell? ⟨g3, 0, none⟩ = some (.iface tp (.pointer (some a3))) ∧
      W.heap[a0.block]? = some (.cells c0 t0 (0, 0)) ∧ W.heap[a1.block]? = some (.cells c1 t1 (0, 0)) ∧ W.heap[a2.block]? = some (.cells c2 t2 (0, 0)) ∧ W.heap[a3.block]? = some (.cells c3 t3 (0, 0)) ∧
      a0 ≠ a1 ∧ a0 ≠ a2 ∧ a0 ≠ a3 ∧ a1 ≠ a2 ∧ a1 ≠ a3 ∧ a2 ≠ a3 := by
  obtain ⟨ps, ⟨g0', t0', cs0, f0, p0, q0, hg0', ht0', hv0, hd0, ⟨g1', t1', cs1, f1, p1, q1, hg1', ht1', hv1, hd1, ⟨g2', t2', cs2, f2, p2, q2, hg2', ht2', hv2, hd2, ⟨g3', t3', cs3, f3, p3, q3, hg3', ht3', hv3, hd3, _, e3⟩, e2⟩, e1⟩, e0⟩, hnd, hrows⟩ := h
  obtain rfl := Option.some.inj (hg0.symm.trans hg0')
  obtain rfl := Option.some.inj (hg1.symm.trans hg1')
  obtain rfl := Option.some.inj (hg2.symm.trans hg2')
  obtain rfl := Option.some.inj (hg3.symm.trans hg3')
  obtain rfl := Option.some.inj (ht0.symm.trans ht0')
  obtain rfl := Option.some.inj (ht1.symm.trans ht1')
  obtain rfl := Option.some.inj (ht2.symm.trans ht2')
  obtain rfl := Option.some.inj (ht3.symm.trans ht3')
  subst e3
  subst e2
  subst e1
  subst e0
  obtain ⟨l0⟩ := cs0
  obtain ⟨l1⟩ := cs1
  obtain ⟨l2⟩ := cs2
  obtain ⟨l3⟩ := cs3
  have ok0 : ∀ u v, l0 = [.iface u v] → Value.okWide P W .any 0 u v := fun u v e => by
    subst e
    exact (hrows g0 0 (by simp [MemPlace.row])).2 u v (by simpa using World.var?_cell hg0' hv0 0)
  have ok1 : ∀ u v, l1 = [.iface u v] → Value.okWide P W .any 0 u v := fun u v e => by
    subst e
    exact (hrows g1 0 (by simp [MemPlace.row])).2 u v (by simpa using World.var?_cell hg1' hv1 0)
  have ok2 : ∀ u v, l2 = [.iface u v] → Value.okWide P W .any 0 u v := fun u v e => by
    subst e
    exact (hrows g2 0 (by simp [MemPlace.row])).2 u v (by simpa using World.var?_cell hg2' hv2 0)
  have ok3 : ∀ u v, l3 = [.iface u v] → Value.okWide P W .any 0 u v := fun u v e => by
    subst e
    exact (hrows g3 0 (by simp [MemPlace.row])).2 u v (by simpa using World.var?_cell hg3' hv3 0)
  obtain ⟨a0, s0, rfl, hc0, hs0, hz0, rfl⟩ := errorString_of_trod hi hrow hp he hft hfo hs hc hcs hd0 ok0
  obtain ⟨a1, s1, rfl, hc1, hs1, hz1, rfl⟩ := errorString_of_trod hi hrow hp he hft hfo hs hc hcs hd1 ok1
  obtain ⟨a2, s2, rfl, hc2, hs2, hz2, rfl⟩ := errorString_of_trod hi hrow hp he hft hfo hs hc hcs hd2 ok2
  obtain ⟨a3, s3, rfl, hc3, hs3, hz3, rfl⟩ := errorString_of_trod hi hrow hp he hft hfo hs hc hcs hd3 ok3
  obtain ⟨c0, t0, hb0⟩ := (hrows a0.block a0.off (by simp [MemPlace.row])).1
  obtain ⟨c1, t1, hb1⟩ := (hrows a1.block a1.off (by simp [MemPlace.row])).1
  obtain ⟨c2, t2, hb2⟩ := (hrows a2.block a2.off (by simp [MemPlace.row])).1
  obtain ⟨c3, t3, hb3⟩ := (hrows a3.block a3.off (by simp [MemPlace.row])).1
  refine ⟨a0, a1, a2, a3, c0, c1, c2, c3, t0, t1, t2, t3, by simpa using World.var?_cell hg0' hv0 0, by simpa using World.var?_cell hg1' hv1 0, by simpa using World.var?_cell hg2' hv2 0, by simpa using World.var?_cell hg3' hv3 0, hb0, hb1, hb2, hb3, ?_, ?_, ?_, ?_, ?_, ?_⟩
  all_goals
    rintro rfl
    simp [MemPlace.row] at hnd
structure Sent (W : World) (a1 a2 a3 a4 : Addr) : Prop where
  v1 : W.cell? ⟨0, 0, none⟩ = some (.iface 109 (.pointer (some a1)))
  v2 : W.cell? ⟨1, 0, none⟩ = some (.iface 109 (.pointer (some a2)))
  v3 : W.cell? ⟨2, 0, none⟩ = some (.iface 109 (.pointer (some a3)))
  v4 : W.cell? ⟨3, 0, none⟩ = some (.iface 109 (.pointer (some a4)))
  b1 : ∃ c t, W.heap[a1.block]? = some (.cells c t (0, 0))
  b2 : ∃ c t, W.heap[a2.block]? = some (.cells c t (0, 0))
  b3 : ∃ c t, W.heap[a3.block]? = some (.cells c t (0, 0))
  b4 : ∃ c t, W.heap[a4.block]? = some (.cells c t (0, 0))
  n12 : a1 ≠ a2
  n13 : a1 ≠ a3
  n14 : a1 ≠ a4
  n23 : a2 ≠ a3
  n24 : a2 ≠ a4
  n34 : a3 ≠ a4
theorem blk_mv {W W' : World} {k : Nat} (h : ∃ c t, W.heap[k]? = some (.cells c t (0, 0))) (hb : Below W.heap.size W W') : ∃ c t, W'.heap[k]? = some (.cells c t (0, 0)) := by
  obtain ⟨c, t, h⟩ := h
  exact ⟨c, t, (hb.block k (Array.getElem?_eq_some_iff.1 h).1).trans h⟩
theorem Sent.mv {W W' : World} {a1 a2 a3 a4 : Addr} (h : Sent W a1 a2 a3 a4) (hb : Below W.heap.size W W') : Sent W' a1 a2 a3 a4 :=
  ⟨(hb.cell (p := ⟨_, 0, none⟩) (World.block_lt_of_cell? W _ h.v1)).trans h.v1, (hb.cell (p := ⟨_, 0, none⟩) (World.block_lt_of_cell? W _ h.v2)).trans h.v2, (hb.cell (p := ⟨_, 0, none⟩) (World.block_lt_of_cell? W _ h.v3)).trans h.v3, (hb.cell (p := ⟨_, 0, none⟩) (World.block_lt_of_cell? W _ h.v4)).trans h.v4,
   blk_mv h.b1 hb, blk_mv h.b2 hb, blk_mv h.b3 hb, blk_mv h.b4 hb, h.n12, h.n13, h.n14, h.n23, h.n24, h.n34⟩
theorem star_ : "*errors.errorString" = "*" ++ "errors.errorString" := by decide
theorem row_ (u : TypeId) (h : Tryd.prog.typeName? 3 u = some "*errors.errorString") : u = 109 :=
  typeName_ptr_named (nm := "errors.errorString") (by rw [← star_]; kernel_rfl) (by kernel_rfl) (by decide) u (by rw [← star_]; exact h)
set_option maxRecDepth 100000 in
theorem sent_of {W : World} (hL : laidMetH Tryd.prog [("loop.example/g00658/impl.errForm", Rows.laid_loop_example_g00658_impl_errForm), ("loop.example/g00658/impl.errLabel", Rows.laid_loop_example_g00658_impl_errLabel), ("loop.example/g00658/impl.errRange", Rows.laid_loop_example_g00658_impl_errRange), ("loop.example/g00658/impl.errFull", Rows.laid_loop_example_g00658_impl_errFull)] W) :
    ∃ a1 a2 a3 a4, Sent W a1 a2 a3 a4 := by
  have h := TabC.plain_met (by rfl) hL
  obtain ⟨a0, a1, a2, a3, c0, c1, c2, c3, t0, t1, t2, t3, h0, h1, h2, h3, k0, k1, k2, k3, n1, n2, n3, n4, n5, n6⟩ := laid4 (ti := 54) (tp := 109) (te := 137) (ts := 9) h (by kernel_rfl) (by kernel_rfl) (by kernel_rfl) (by kernel_rfl) (by kernel_rfl) (by kernel_rfl) (by kernel_rfl) (by kernel_rfl) Tryd.underlying54 row_ Tryd.underlying109 Tryd.underlying137 rfl rfl Tryd.underlying9 (by kernel_rfl) (by kernel_rfl)
  exact ⟨a0, a1, a2, a3, h0, h1, h2, h3, ⟨c0, t0, k0⟩, ⟨c1, t1, k1⟩, ⟨c2, t2, k2⟩, ⟨c3, t3, k3⟩, n1, n2, n3, n4, n5, n6⟩
end Go.Proofs.YtphklknaagjmpaaDoor.SenC
end
section
namespace Go.Proofs.YtphklknaagjmpaaDoor.RepC
open SenC IsC Go.RowKit RowC ValC SpanC KeptC
set_option linter.unusedVariables false
set_option linter.unusedSimpArgs false
set_option maxRecDepth 100000 in
theorem refusal_1 {W : World} {a1 a2 a3 a4 : Addr} (h : Sent W a1 a2 a3 a4) : Calls Tryd.prog 41 #[.iface 109 (.pointer (some a1))] W fun e w' => e = .returned (.int .i64 1) ∧ Below W.heap.size W w' := by
  obtain ⟨c1, t1, hb1⟩ := h.b1
  obtain ⟨c2, t2, hb2⟩ := h.b2
  obtain ⟨c3, t3, hb3⟩ := h.b3
  obtain ⟨c4, t4, hb4⟩ := h.b4
  have v2 := h.v2
  have v3 := h.v3
  have v4 := h.v4
  go_enter Tryd.func41, Tryd.ntmps41
  go_wp2_with fail
  refine (is_other a1 a2 c1 c2 t1 t2 _ h.n12 hb1 hb2).mono ?_
  rintro e w' ⟨rfl, rfl⟩
  go_wp2_with fail
  refine (is_other a1 a3 c1 c3 t1 t3 _ h.n13 hb1 hb3).mono ?_
  rintro e w' ⟨rfl, rfl⟩
  go_wp2_with fail
  refine (is_other a1 a4 c1 c4 t1 t4 _ h.n14 hb1 hb4).mono ?_
  rintro e w' ⟨rfl, rfl⟩
  go_wp2
  go_ret
  exact ⟨rfl, Below.refl _ _⟩
set_option maxRecDepth 100000 in
theorem refusal_2 {W : World} {a1 a2 a3 a4 : Addr} (h : Sent W a1 a2 a3 a4) : Calls Tryd.prog 41 #[.iface 109 (.pointer (some a2))] W fun e w' => e = .returned (.int .i64 11) ∧ Below W.heap.size W w' := by
  obtain ⟨c1, t1, hb1⟩ := h.b1
  obtain ⟨c2, t2, hb2⟩ := h.b2
  obtain ⟨c3, t3, hb3⟩ := h.b3
  obtain ⟨c4, t4, hb4⟩ := h.b4
  have v2 := h.v2
  have v3 := h.v3
  have v4 := h.v4
  go_enter Tryd.func41, Tryd.ntmps41
  go_wp2_with fail
  refine (is_same a2 _).mono ?_
  rintro e w' ⟨rfl, rfl⟩
  go_wp2
  go_ret
  exact ⟨rfl, Below.refl _ _⟩
set_option maxRecDepth 100000 in
theorem refusal_3 {W : World} {a1 a2 a3 a4 : Addr} (h : Sent W a1 a2 a3 a4) : Calls Tryd.prog 41 #[.iface 109 (.pointer (some a3))] W fun e w' => e = .returned (.int .i64 8) ∧ Below W.heap.size W w' := by
  obtain ⟨c1, t1, hb1⟩ := h.b1
  obtain ⟨c2, t2, hb2⟩ := h.b2
  obtain ⟨c3, t3, hb3⟩ := h.b3
  obtain ⟨c4, t4, hb4⟩ := h.b4
  have v2 := h.v2
  have v3 := h.v3
  have v4 := h.v4
  go_enter Tryd.func41, Tryd.ntmps41
  go_wp2_with fail
  refine (is_other a3 a2 c3 c2 t3 t2 _ h.n23.symm hb3 hb2).mono ?_
  rintro e w' ⟨rfl, rfl⟩
  go_wp2_with fail
  refine (is_same a3 _).mono ?_
  rintro e w' ⟨rfl, rfl⟩
  go_wp2
  go_ret
  exact ⟨rfl, Below.refl _ _⟩
set_option maxRecDepth 100000 in
theorem refusal_4 {W : World} {a1 a2 a3 a4 : Addr} (h : Sent W a1 a2 a3 a4) : Calls Tryd.prog 41 #[.iface 109 (.pointer (some a4))] W fun e w' => e = .returned (.int .i64 9) ∧ Below W.heap.size W w' := by
  obtain ⟨c1, t1, hb1⟩ := h.b1
  obtain ⟨c2, t2, hb2⟩ := h.b2
  obtain ⟨c3, t3, hb3⟩ := h.b3
  obtain ⟨c4, t4, hb4⟩ := h.b4
  have v2 := h.v2
  have v3 := h.v3
  have v4 := h.v4
  go_enter Tryd.func41, Tryd.ntmps41
  go_wp2_with fail
  refine (is_other a4 a2 c4 c2 t4 t2 _ h.n24.symm hb4 hb2).mono ?_
  rintro e w' ⟨rfl, rfl⟩
  go_wp2_with fail
  refine (is_other a4 a3 c4 c3 t4 t3 _ h.n34.symm hb4 hb3).mono ?_
  rintro e w' ⟨rfl, rfl⟩
  go_wp2_with fail
  refine (is_same a4 _).mono ?_
  rintro e w' ⟨rfl, rfl⟩
  go_wp2
  go_ret
  exact ⟨rfl, Below.refl _ _⟩
set_option maxRecDepth 100000 in
set_option maxHeartbeats 1600000 in
theorem step_1 {W : World} {a1 a2 a3 a4 : Addr} (h : Sent W a1 a2 a3 a4) : Calls Tryd.prog 23 #[.agg #[.slice none 0 0, .slice none 0 0, .slice none 0 0, .int .i64 0, .int .i64 0], .iface 109 (.pointer (some a1))] W (NewV R_DeskStep (zeroD, 1) W) := by
  obtain ⟨hb0, hd0, hr0⟩ := bx2 W #[.slice none 0 0, .slice none 0 0, .slice none 0 0, .int .i64 0, .int .i64 0] #[.slice none 0 0, .slice none 0 0, .slice none 0 0, .int .i64 0, .int .i64 0, .int .i64 0] 25 31
  obtain ⟨w0, hw0⟩ : ∃ w, w = (W.alloc (.cells #[.slice none 0 0, .slice none 0 0, .slice none 0 0, .int .i64 0, .int .i64 0] 25)).alloc (.cells #[.slice none 0 0, .slice none 0 0, .slice none 0 0, .int .i64 0, .int .i64 0, .int .i64 0] 31) := ⟨_, rfl⟩
  rw [← hw0] at hb0 hd0 hr0
  have HB0 := Lib.hid hb0
  have HR0 := Lib.hid hr0
  have HS0 := Lib.hid (h.mv hb0)
  have hz0 := hb0.size
  clear hb0 hd0 hr0
  go_enter Tryd.func23, Tryd.ntmps23
  go_wp2_with fail
  rw [← hw0]
  clear hw0
  refine (refusal_1 HS0.out).mono ?_
  rintro e w1 ⟨rfl, hb⟩
  have HB1 := Lib.hid (HB0.out.trans (hb.mono hz0))
  have HR1 := Lib.hid (HR0.out.call hb)
  have qHR1_0 := HR1.out.at_ 0 rfl
  have qHR1_1 := HR1.out.at_ 1 rfl
  have qHR1_2 := HR1.out.at_ 2 rfl
  have qHR1_3 := HR1.out.at_ 3 rfl
  have qHR1_4 := HR1.out.at_ 4 rfl
  have qHR1_5 := HR1.out.at_ 5 rfl
  have sHR1_0 := HR1.out.soft 0
  have sHR1_1 := HR1.out.soft 1
  have sHR1_2 := HR1.out.soft 2
  have sHR1_3 := HR1.out.soft 3
  have sHR1_4 := HR1.out.soft 4
  have sHR1_5 := HR1.out.soft 5
  clear hb
  go_wp2
  refine bodyPost_ret (v := .agg #[.slice none 0 0, .slice none 0 0, .slice none 0 0, .int .i64 0, .int .i64 0, .int .i64 1]) (by simp [results, Tryd.results23, go_sem, *]) rfl ?_
  exact ⟨_, rfl, step_ow 1, ((((((HB1.out.setCell (p := ⟨W.heap.size + 1, 0, none⟩) (by show W.heap.size ≤ W.heap.size + 1; omega) (.slice none 0 0)).setCell (p := ⟨W.heap.size + 1, 1, none⟩) (by show W.heap.size ≤ W.heap.size + 1; omega) (.slice none 0 0)).setCell (p := ⟨W.heap.size + 1, 2, none⟩) (by show W.heap.size ≤ W.heap.size + 1; omega) (.slice none 0 0)).setCell (p := ⟨W.heap.size + 1, 3, none⟩) (by show W.heap.size ≤ W.heap.size + 1; omega) (.int .i64 0)).setCell (p := ⟨W.heap.size + 1, 4, none⟩) (by show W.heap.size ≤ W.heap.size + 1; omega) (.int .i64 0)).setCell (p := ⟨W.heap.size + 1, 5, none⟩) (by show W.heap.size ≤ W.heap.size + 1; omega) (.int .i64 1))⟩
set_option maxRecDepth 100000 in
set_option maxHeartbeats 1600000 in
theorem step_2 {W : World} {a1 a2 a3 a4 : Addr} (h : Sent W a1 a2 a3 a4) : Calls Tryd.prog 23 #[.agg #[.slice none 0 0, .slice none 0 0, .slice none 0 0, .int .i64 0, .int .i64 0], .iface 109 (.pointer (some a2))] W (NewV R_DeskStep (zeroD, 11) W) := by
  obtain ⟨hb0, hd0, hr0⟩ := bx2 W #[.slice none 0 0, .slice none 0 0, .slice none 0 0, .int .i64 0, .int .i64 0] #[.slice none 0 0, .slice none 0 0, .slice none 0 0, .int .i64 0, .int .i64 0, .int .i64 0] 25 31
  obtain ⟨w0, hw0⟩ : ∃ w, w = (W.alloc (.cells #[.slice none 0 0, .slice none 0 0, .slice none 0 0, .int .i64 0, .int .i64 0] 25)).alloc (.cells #[.slice none 0 0, .slice none 0 0, .slice none 0 0, .int .i64 0, .int .i64 0, .int .i64 0] 31) := ⟨_, rfl⟩
  rw [← hw0] at hb0 hd0 hr0
  have HB0 := Lib.hid hb0
  have HR0 := Lib.hid hr0
  have HS0 := Lib.hid (h.mv hb0)
  have hz0 := hb0.size
  clear hb0 hd0 hr0
  go_enter Tryd.func23, Tryd.ntmps23
  go_wp2_with fail
  rw [← hw0]
  clear hw0
  refine (refusal_2 HS0.out).mono ?_
  rintro e w1 ⟨rfl, hb⟩
  have HB1 := Lib.hid (HB0.out.trans (hb.mono hz0))
  have HR1 := Lib.hid (HR0.out.call hb)
  have qHR1_0 := HR1.out.at_ 0 rfl
  have qHR1_1 := HR1.out.at_ 1 rfl
  have qHR1_2 := HR1.out.at_ 2 rfl
  have qHR1_3 := HR1.out.at_ 3 rfl
  have qHR1_4 := HR1.out.at_ 4 rfl
  have qHR1_5 := HR1.out.at_ 5 rfl
  have sHR1_0 := HR1.out.soft 0
  have sHR1_1 := HR1.out.soft 1
  have sHR1_2 := HR1.out.soft 2
  have sHR1_3 := HR1.out.soft 3
  have sHR1_4 := HR1.out.soft 4
  have sHR1_5 := HR1.out.soft 5
  clear hb
  go_wp2
  refine bodyPost_ret (v := .agg #[.slice none 0 0, .slice none 0 0, .slice none 0 0, .int .i64 0, .int .i64 0, .int .i64 11]) (by simp [results, Tryd.results23, go_sem, *]) rfl ?_
  exact ⟨_, rfl, step_ow 11, ((((((HB1.out.setCell (p := ⟨W.heap.size + 1, 0, none⟩) (by show W.heap.size ≤ W.heap.size + 1; omega) (.slice none 0 0)).setCell (p := ⟨W.heap.size + 1, 1, none⟩) (by show W.heap.size ≤ W.heap.size + 1; omega) (.slice none 0 0)).setCell (p := ⟨W.heap.size + 1, 2, none⟩) (by show W.heap.size ≤ W.heap.size + 1; omega) (.slice none 0 0)).setCell (p := ⟨W.heap.size + 1, 3, none⟩) (by show W.heap.size ≤ W.heap.size + 1; omega) (.int .i64 0)).setCell (p := ⟨W.heap.size + 1, 4, none⟩) (by show W.heap.size ≤ W.heap.size + 1; omega) (.int .i64 0)).setCell (p := ⟨W.heap.size + 1, 5, none⟩) (by show W.heap.size ≤ W.heap.size + 1; omega) (.int .i64 11))⟩
set_option maxRecDepth 100000 in
set_option maxHeartbeats 1600000 in
theorem step_3 {W : World} {a1 a2 a3 a4 : Addr} (h : Sent W a1 a2 a3 a4) : Calls Tryd.prog 23 #[.agg #[.slice none 0 0, .slice none 0 0, .slice none 0 0, .int .i64 0, .int .i64 0], .iface 109 (.pointer (some a3))] W (NewV R_DeskStep (zeroD, 8) W) := by
  obtain ⟨hb0, hd0, hr0⟩ := bx2 W #[.slice none 0 0, .slice none 0 0, .slice none 0 0, .int .i64 0, .int .i64 0] #[.slice none 0 0, .slice none 0 0, .slice none 0 0, .int .i64 0, .int .i64 0, .int .i64 0] 25 31
  obtain ⟨w0, hw0⟩ : ∃ w, w = (W.alloc (.cells #[.slice none 0 0, .slice none 0 0, .slice none 0 0, .int .i64 0, .int .i64 0] 25)).alloc (.cells #[.slice none 0 0, .slice none 0 0, .slice none 0 0, .int .i64 0, .int .i64 0, .int .i64 0] 31) := ⟨_, rfl⟩
  rw [← hw0] at hb0 hd0 hr0
  have HB0 := Lib.hid hb0
  have HR0 := Lib.hid hr0
  have HS0 := Lib.hid (h.mv hb0)
  have hz0 := hb0.size
  clear hb0 hd0 hr0
  go_enter Tryd.func23, Tryd.ntmps23
  go_wp2_with fail
  rw [← hw0]
  clear hw0
  refine (refusal_3 HS0.out).mono ?_
  rintro e w1 ⟨rfl, hb⟩
  have HB1 := Lib.hid (HB0.out.trans (hb.mono hz0))
  have HR1 := Lib.hid (HR0.out.call hb)
  have qHR1_0 := HR1.out.at_ 0 rfl
  have qHR1_1 := HR1.out.at_ 1 rfl
  have qHR1_2 := HR1.out.at_ 2 rfl
  have qHR1_3 := HR1.out.at_ 3 rfl
  have qHR1_4 := HR1.out.at_ 4 rfl
  have qHR1_5 := HR1.out.at_ 5 rfl
  have sHR1_0 := HR1.out.soft 0
  have sHR1_1 := HR1.out.soft 1
  have sHR1_2 := HR1.out.soft 2
  have sHR1_3 := HR1.out.soft 3
  have sHR1_4 := HR1.out.soft 4
  have sHR1_5 := HR1.out.soft 5
  clear hb
  go_wp2
  refine bodyPost_ret (v := .agg #[.slice none 0 0, .slice none 0 0, .slice none 0 0, .int .i64 0, .int .i64 0, .int .i64 8]) (by simp [results, Tryd.results23, go_sem, *]) rfl ?_
  exact ⟨_, rfl, step_ow 8, ((((((HB1.out.setCell (p := ⟨W.heap.size + 1, 0, none⟩) (by show W.heap.size ≤ W.heap.size + 1; omega) (.slice none 0 0)).setCell (p := ⟨W.heap.size + 1, 1, none⟩) (by show W.heap.size ≤ W.heap.size + 1; omega) (.slice none 0 0)).setCell (p := ⟨W.heap.size + 1, 2, none⟩) (by show W.heap.size ≤ W.heap.size + 1; omega) (.slice none 0 0)).setCell (p := ⟨W.heap.size + 1, 3, none⟩) (by show W.heap.size ≤ W.heap.size + 1; omega) (.int .i64 0)).setCell (p := ⟨W.heap.size + 1, 4, none⟩) (by show W.heap.size ≤ W.heap.size + 1; omega) (.int .i64 0)).setCell (p := ⟨W.heap.size + 1, 5, none⟩) (by show W.heap.size ≤ W.heap.size + 1; omega) (.int .i64 8))⟩
set_option maxRecDepth 100000 in
set_option maxHeartbeats 1600000 in
theorem step_4 {W : World} {a1 a2 a3 a4 : Addr} (h : Sent W a1 a2 a3 a4) : Calls Tryd.prog 23 #[.agg #[.slice none 0 0, .slice none 0 0, .slice none 0 0, .int .i64 0, .int .i64 0], .iface 109 (.pointer (some a4))] W (NewV R_DeskStep (zeroD, 9) W) := by
  obtain ⟨hb0, hd0, hr0⟩ := bx2 W #[.slice none 0 0, .slice none 0 0, .slice none 0 0, .int .i64 0, .int .i64 0] #[.slice none 0 0, .slice none 0 0, .slice none 0 0, .int .i64 0, .int .i64 0, .int .i64 0] 25 31
  obtain ⟨w0, hw0⟩ : ∃ w, w = (W.alloc (.cells #[.slice none 0 0, .slice none 0 0, .slice none 0 0, .int .i64 0, .int .i64 0] 25)).alloc (.cells #[.slice none 0 0, .slice none 0 0, .slice none 0 0, .int .i64 0, .int .i64 0, .int .i64 0] 31) := ⟨_, rfl⟩
  rw [← hw0] at hb0 hd0 hr0
  have HB0 := Lib.hid hb0
  have HR0 := Lib.hid hr0
  have HS0 := Lib.hid (h.mv hb0)
  have hz0 := hb0.size
  clear hb0 hd0 hr0
  go_enter Tryd.func23, Tryd.ntmps23
  go_wp2_with fail
  rw [← hw0]
  clear hw0
  refine (refusal_4 HS0.out).mono ?_
  rintro e w1 ⟨rfl, hb⟩
  have HB1 := Lib.hid (HB0.out.trans (hb.mono hz0))
  have HR1 := Lib.hid (HR0.out.call hb)
  have qHR1_0 := HR1.out.at_ 0 rfl
  have qHR1_1 := HR1.out.at_ 1 rfl
  have qHR1_2 := HR1.out.at_ 2 rfl
  have qHR1_3 := HR1.out.at_ 3 rfl
  have qHR1_4 := HR1.out.at_ 4 rfl
  have qHR1_5 := HR1.out.at_ 5 rfl
  have sHR1_0 := HR1.out.soft 0
  have sHR1_1 := HR1.out.soft 1
  have sHR1_2 := HR1.out.soft 2
  have sHR1_3 := HR1.out.soft 3
  have sHR1_4 := HR1.out.soft 4
  have sHR1_5 := HR1.out.soft 5
  clear hb
  go_wp2
  refine bodyPost_ret (v := .agg #[.slice none 0 0, .slice none 0 0, .slice none 0 0, .int .i64 0, .int .i64 0, .int .i64 9]) (by simp [results, Tryd.results23, go_sem, *]) rfl ?_
  exact ⟨_, rfl, step_ow 9, ((((((HB1.out.setCell (p := ⟨W.heap.size + 1, 0, none⟩) (by show W.heap.size ≤ W.heap.size + 1; omega) (.slice none 0 0)).setCell (p := ⟨W.heap.size + 1, 1, none⟩) (by show W.heap.size ≤ W.heap.size + 1; omega) (.slice none 0 0)).setCell (p := ⟨W.heap.size + 1, 2, none⟩) (by show W.heap.size ≤ W.heap.size + 1; omega) (.slice none 0 0)).setCell (p := ⟨W.heap.size + 1, 3, none⟩) (by show W.heap.size ≤ W.heap.size + 1; omega) (.int .i64 0)).setCell (p := ⟨W.heap.size + 1, 4, none⟩) (by show W.heap.size ≤ W.heap.size + 1; omega) (.int .i64 0)).setCell (p := ⟨W.heap.size + 1, 5, none⟩) (by show W.heap.size ≤ W.heap.size + 1; omega) (.int .i64 9))⟩
set_option maxRecDepth 100000 in
set_option maxHeartbeats 1600000 in
theorem step_ok {P B A : List D_Letter} {pa ba aa : Option Addr} {pc bc ac : Nat} {u n : Int} {W : World} {S : Nat → Prop} (hD : R_Desk.ow W S (P, B, A, u, n) [.slice pa P.length pc, .slice ba B.length bc, .slice aa A.length ac, .int .i64 u, .int .i64 n]) (hS : ∀ k, S k → k < W.heap.size) : Calls Tryd.prog 23 #[.agg #[.slice pa P.length pc, .slice ba B.length bc, .slice aa A.length ac, .int .i64 u, .int .i64 n], .nilIface] W fun e w' => ∃ us : List Value, e = .returned (.agg us.toArray) ∧ R_DeskStep.ow w' S ((P, B, A, u, n), 0) us ∧ Below W.heap.size W w' := by
  obtain ⟨hb0, hd0, hr0⟩ := bx2 W #[.slice pa P.length pc, .slice ba B.length bc, .slice aa A.length ac, .int .i64 u, .int .i64 n] #[.slice none 0 0, .slice none 0 0, .slice none 0 0, .int .i64 0, .int .i64 0, .int .i64 0] 25 31
  obtain ⟨w0, hw0⟩ : ∃ w, w = (W.alloc (.cells #[.slice pa P.length pc, .slice ba B.length bc, .slice aa A.length ac, .int .i64 u, .int .i64 n] 25)).alloc (.cells #[.slice none 0 0, .slice none 0 0, .slice none 0 0, .int .i64 0, .int .i64 0, .int .i64 0] 31) := ⟨_, rfl⟩
  have HB0 := Lib.hid (show Below W.heap.size W w0 from hw0 ▸ hb0)
  have HR0 := Lib.hid hr0
  have HDB := Lib.hid hd0
  have qHR0_0 := HR0.out.at_ 0 rfl
  have qHR0_1 := HR0.out.at_ 1 rfl
  have qHR0_2 := HR0.out.at_ 2 rfl
  have qHR0_3 := HR0.out.at_ 3 rfl
  have qHR0_4 := HR0.out.at_ 4 rfl
  have qHR0_5 := HR0.out.at_ 5 rfl
  have sHR0_0 := HR0.out.soft 0
  have sHR0_1 := HR0.out.soft 1
  have sHR0_2 := HR0.out.soft 2
  have sHR0_3 := HR0.out.soft 3
  have sHR0_4 := HR0.out.soft 4
  have sHR0_5 := HR0.out.soft 5
  have qHDB_0 := HDB.out.at_ 0 rfl
  have qHDB_1 := HDB.out.at_ 1 rfl
  have qHDB_2 := HDB.out.at_ 2 rfl
  have qHDB_3 := HDB.out.at_ 3 rfl
  have qHDB_4 := HDB.out.at_ 4 rfl
  clear hb0 hd0 hr0
  have HD := Lib.hid hD
  have HS := Lib.hid hS
  clear hD hS
  go_enter Tryd.func23, Tryd.ntmps23
  go_wp2
  refine bodyPost_ret (v := .agg #[.slice pa P.length pc, .slice ba B.length bc, .slice aa A.length ac, .int .i64 u, .int .i64 n, .int .i64 0]) (by simp [results, Tryd.results23, go_sem, *]) rfl ?_
  clear hw0
  have hbb := (bx2 W #[.slice pa P.length pc, .slice ba B.length bc, .slice aa A.length ac, .int .i64 u, .int .i64 n] #[.slice pa P.length pc, .slice ba B.length bc, .slice aa A.length ac, .int .i64 u, .int .i64 n, .int .i64 0] 25 31).1
  refine ⟨[.slice pa P.length pc, .slice ba B.length bc, .slice aa A.length ac, .int .i64 u, .int .i64 n, .int .i64 0], rfl, ?_, hbb⟩
  exact ⟨[.slice pa P.length pc, .slice ba B.length bc, .slice aa A.length ac, .int .i64 u, .int .i64 n], [.int .i64 0], S, fun _ => False, rfl, fun k h => h, fun k h => h.elim, fun k _ h => h, R_Desk_ok.ow_keep HD.out fun k hk => hbb.block k (HS.out k hk), rfl⟩
set_option maxRecDepth 100000 in
set_option maxHeartbeats 1600000 in
theorem next_1 {P B A : List D_Letter} {pa ba aa : Option Addr} {pc bc ac : Nat} {u n : Int} {W : World} {a1 a2 a3 a4 : Addr} (h : Sent W a1 a2 a3 a4) (hP : RdSl R_Letter W W.heap.size P pa pc) (hB : RdSl R_Letter W W.heap.size B ba bc) (hA : RdSl R_Letter W W.heap.size A aa ac) (hN : ¬ DeskR P B A u n) : Calls Tryd.prog 25 #[.agg #[.slice pa P.length pc, .slice ba B.length bc, .slice aa A.length ac, .int .i64 u, .int .i64 n]] W fun e w' => e = .returned (.tuple #[.agg #[.slice none 0 0, .slice none 0 0, .slice none 0 0, .int .i64 0, .int .i64 0], .iface 109 (.pointer (some a1))]) ∧ Below W.heap.size W w' := by
  obtain ⟨hb0, hd0, hr0⟩ := bx2 W #[.slice pa P.length pc, .slice ba B.length bc, .slice aa A.length ac, .int .i64 u, .int .i64 n] #[.slice none 0 0, .slice none 0 0, .slice none 0 0, .int .i64 0, .int .i64 0] 25 25
  obtain ⟨w0, hw0⟩ : ∃ w, w = (W.alloc (.cells #[.slice pa P.length pc, .slice ba B.length bc, .slice aa A.length ac, .int .i64 u, .int .i64 n] 25)).alloc (.cells #[.slice none 0 0, .slice none 0 0, .slice none 0 0, .int .i64 0, .int .i64 0] 25) := ⟨_, rfl⟩
  rw [← hw0] at hb0 hd0 hr0
  have HB0 := Lib.hid hb0
  have HR0 := Lib.hid hr0
  have HD0 := Lib.hid hd0
  have HS0 := Lib.hid (h.mv hb0)
  have HPw := Lib.hid (gmvS hP hb0)
  have HBw := Lib.hid (gmvS hB hb0)
  have HAw := Lib.hid (gmvS hA hb0)
  have hz0 := hb0.size
  clear hb0 hd0 hr0 hP hB hA
  go_enter Tryd.func25, Tryd.ntmps25
  go_wp2_with fail
  rw [← hw0]
  clear hw0
  refine ((box_impl HPw.out HBw.out HAw.out).mono (fun _ _ => resB_at (b := false) (by simp [hN]))).mono ?_
  rintro e w1 ⟨rfl, hb⟩
  have HB1 := Lib.hid (HB0.out.trans (hb.mono hz0))
  have HR1 := Lib.hid (show Blk w1.drew (W.heap.size + 1) 25 #[.slice none 0 0, .slice none 0 0, .slice none 0 0, .int .i64 0, .int .i64 0] from (show Blk w1 (W.heap.size + 1) 25 #[.slice none 0 0, .slice none 0 0, .slice none 0 0, .int .i64 0, .int .i64 0] from HR0.out.call hb))
  have HD1 := Lib.hid (HD0.out.call hb)
  have v1 := (HS0.out.mv hb).v1
  have hgv := Nat.lt_succ_of_lt (World.block_lt_of_cell? W _ h.v1)
  have qHD1_0 := HD1.out.at_ 0 rfl
  have qHD1_1 := HD1.out.at_ 1 rfl
  have qHD1_2 := HD1.out.at_ 2 rfl
  have qHD1_3 := HD1.out.at_ 3 rfl
  have qHD1_4 := HD1.out.at_ 4 rfl
  clear hb
  go_wp2_with fail
  refine wp_region_held_drew (S := (fun V => Below (W.heap.size + 1) w1 V)) (by kernel_rfl) ((Below.refl _ _).drew) (fun hHeld => ?_)
  obtain ⟨wd, hwd⟩ : ∃ w, w = w1.drew := ⟨_, rfl⟩
  rw [← hwd] at hHeld HR1
  rw [← hwd]
  clear hwd
  refine tk 0 hHeld ?_
  refine rd2 1 2 (fun K hK => ?_) (fun K hK => ?_)
  · skip
    have k0 := (hHeld.cell (p := ⟨0, 0, none⟩) hgv).trans v1
    go_simp
    refine hK.out _ _ hHeld (fun hHeld => ?_)
    clear k0
    clear hK K
    refine rd1 2 (fun K hK => ?_)
    have qHR1_0 := HR1.out.at_ 0 rfl
    have qHR1_1 := HR1.out.at_ 1 rfl
    have qHR1_2 := HR1.out.at_ 2 rfl
    have qHR1_3 := HR1.out.at_ 3 rfl
    have qHR1_4 := HR1.out.at_ 4 rfl
    have sHR1_0 := HR1.out.soft 0
    have sHR1_1 := HR1.out.soft 1
    have sHR1_2 := HR1.out.soft 2
    have sHR1_3 := HR1.out.soft 3
    have sHR1_4 := HR1.out.soft 4
    go_simp
    refine hK.out _ _ (((((hHeld.setCell (p := ⟨W.heap.size + 1, 0, none⟩) (Nat.le_refl _) (.slice none 0 0)).setCell (p := ⟨W.heap.size + 1, 1, none⟩) (Nat.le_refl _) (.slice none 0 0)).setCell (p := ⟨W.heap.size + 1, 2, none⟩) (Nat.le_refl _) (.slice none 0 0)).setCell (p := ⟨W.heap.size + 1, 3, none⟩) (Nat.le_refl _) (.int .i64 0)).setCell (p := ⟨W.heap.size + 1, 4, none⟩) (Nat.le_refl _) (.int .i64 0)) (fun hHeld => ?_)
    clear qHR1_0 sHR1_0 qHR1_1 sHR1_1 qHR1_2 sHR1_2 qHR1_3 sHR1_3 qHR1_4 sHR1_4
    clear hK K
    refine tk 3 hHeld ?_
    refine rd0 ?_
    have HF := Lib.hid hHeld
    clear hHeld
    have qHR1_0 := HR1.out.at_ 0 rfl
    have qHR1_1 := HR1.out.at_ 1 rfl
    have qHR1_2 := HR1.out.at_ 2 rfl
    have qHR1_3 := HR1.out.at_ 3 rfl
    have qHR1_4 := HR1.out.at_ 4 rfl
    go_wp2
    refine bodyPost_ret (v := .tuple #[.agg #[.slice none 0 0, .slice none 0 0, .slice none 0 0, .int .i64 0, .int .i64 0], .iface 109 (.pointer (some a1))]) (by simp [results, Tryd.results25, go_sem, *]) rfl ?_
    exact ⟨rfl, HB1.out.trans (HF.out.mono (Nat.le_succ _))⟩
  · skip
    have qHR1_0 := HR1.out.at_ 0 rfl
    have qHR1_1 := HR1.out.at_ 1 rfl
    have qHR1_2 := HR1.out.at_ 2 rfl
    have qHR1_3 := HR1.out.at_ 3 rfl
    have qHR1_4 := HR1.out.at_ 4 rfl
    have sHR1_0 := HR1.out.soft 0
    have sHR1_1 := HR1.out.soft 1
    have sHR1_2 := HR1.out.soft 2
    have sHR1_3 := HR1.out.soft 3
    have sHR1_4 := HR1.out.soft 4
    go_simp
    refine hK.out _ _ (((((hHeld.setCell (p := ⟨W.heap.size + 1, 0, none⟩) (Nat.le_refl _) (.slice none 0 0)).setCell (p := ⟨W.heap.size + 1, 1, none⟩) (Nat.le_refl _) (.slice none 0 0)).setCell (p := ⟨W.heap.size + 1, 2, none⟩) (Nat.le_refl _) (.slice none 0 0)).setCell (p := ⟨W.heap.size + 1, 3, none⟩) (Nat.le_refl _) (.int .i64 0)).setCell (p := ⟨W.heap.size + 1, 4, none⟩) (Nat.le_refl _) (.int .i64 0)) (fun hHeld => ?_)
    clear qHR1_0 sHR1_0 qHR1_1 sHR1_1 qHR1_2 sHR1_2 qHR1_3 sHR1_3 qHR1_4 sHR1_4
    clear hK K
    refine rd1 1 (fun K hK => ?_)
    have k0 := (hHeld.cell (p := ⟨0, 0, none⟩) hgv).trans v1
    go_simp
    refine hK.out _ _ hHeld (fun hHeld => ?_)
    clear k0
    clear hK K
    refine tk 3 hHeld ?_
    refine rd0 ?_
    have HF := Lib.hid hHeld
    clear hHeld
    have qHR1_0 := HR1.out.at_ 0 rfl
    have qHR1_1 := HR1.out.at_ 1 rfl
    have qHR1_2 := HR1.out.at_ 2 rfl
    have qHR1_3 := HR1.out.at_ 3 rfl
    have qHR1_4 := HR1.out.at_ 4 rfl
    go_wp2
    refine bodyPost_ret (v := .tuple #[.agg #[.slice none 0 0, .slice none 0 0, .slice none 0 0, .int .i64 0, .int .i64 0], .iface 109 (.pointer (some a1))]) (by simp [results, Tryd.results25, go_sem, *]) rfl ?_
    exact ⟨rfl, HB1.out.trans (HF.out.mono (Nat.le_succ _))⟩
set_option maxRecDepth 100000 in
set_option maxHeartbeats 1600000 in
theorem next_4 {P B A : List D_Letter} {pa ba aa : Option Addr} {pc bc ac : Nat} {u : Int} {W : World} {a1 a2 a3 a4 : Addr} (h : Sent W a1 a2 a3 a4) (hP : RdSl R_Letter W W.heap.size P pa pc) (hB : RdSl R_Letter W W.heap.size B ba bc) (hA : RdSl R_Letter W W.heap.size A aa ac) (hY : DeskR P B A u 999900) : Calls Tryd.prog 25 #[.agg #[.slice pa P.length pc, .slice ba B.length bc, .slice aa A.length ac, .int .i64 u, .int .i64 999900]] W fun e w' => e = .returned (.tuple #[.agg #[.slice none 0 0, .slice none 0 0, .slice none 0 0, .int .i64 0, .int .i64 0], .iface 109 (.pointer (some a4))]) ∧ Below W.heap.size W w' := by
  obtain ⟨hb0, hd0, hr0⟩ := bx2 W #[.slice pa P.length pc, .slice ba B.length bc, .slice aa A.length ac, .int .i64 u, .int .i64 999900] #[.slice none 0 0, .slice none 0 0, .slice none 0 0, .int .i64 0, .int .i64 0] 25 25
  obtain ⟨w0, hw0⟩ : ∃ w, w = (W.alloc (.cells #[.slice pa P.length pc, .slice ba B.length bc, .slice aa A.length ac, .int .i64 u, .int .i64 999900] 25)).alloc (.cells #[.slice none 0 0, .slice none 0 0, .slice none 0 0, .int .i64 0, .int .i64 0] 25) := ⟨_, rfl⟩
  rw [← hw0] at hb0 hd0 hr0
  have HB0 := Lib.hid hb0
  have HR0 := Lib.hid hr0
  have HD0 := Lib.hid hd0
  have HS0 := Lib.hid (h.mv hb0)
  have HPw := Lib.hid (gmvS hP hb0)
  have HBw := Lib.hid (gmvS hB hb0)
  have HAw := Lib.hid (gmvS hA hb0)
  have hz0 := hb0.size
  clear hb0 hd0 hr0 hP hB hA
  go_enter Tryd.func25, Tryd.ntmps25
  go_wp2_with fail
  rw [← hw0]
  clear hw0
  refine ((box_impl HPw.out HBw.out HAw.out).mono (fun _ _ => resB_at (b := true) (by simp [hY]))).mono ?_
  rintro e w1 ⟨rfl, hb⟩
  have HB1 := Lib.hid (HB0.out.trans (hb.mono hz0))
  have HR1 := Lib.hid (show Blk w1.drew (W.heap.size + 1) 25 #[.slice none 0 0, .slice none 0 0, .slice none 0 0, .int .i64 0, .int .i64 0] from (show Blk w1 (W.heap.size + 1) 25 #[.slice none 0 0, .slice none 0 0, .slice none 0 0, .int .i64 0, .int .i64 0] from HR0.out.call hb))
  have HD1 := Lib.hid (HD0.out.call hb)
  have v4 := (HS0.out.mv hb).v4
  have hgv := Nat.lt_succ_of_lt (World.block_lt_of_cell? W _ h.v4)
  have qHD1_0 := HD1.out.at_ 0 rfl
  have qHD1_1 := HD1.out.at_ 1 rfl
  have qHD1_2 := HD1.out.at_ 2 rfl
  have qHD1_3 := HD1.out.at_ 3 rfl
  have qHD1_4 := HD1.out.at_ 4 rfl
  clear hb
  go_wp2_with fail
  refine wp_region_held_drew (S := (fun V => Below (W.heap.size + 1) w1 V)) (by kernel_rfl) ((Below.refl _ _).drew) (fun hHeld => ?_)
  obtain ⟨wd, hwd⟩ : ∃ w, w = w1.drew := ⟨_, rfl⟩
  rw [← hwd] at hHeld HR1
  rw [← hwd]
  clear hwd
  refine tk 0 hHeld ?_
  refine rd2 1 2 (fun K hK => ?_) (fun K hK => ?_)
  · skip
    have k0 := (hHeld.cell (p := ⟨3, 0, none⟩) hgv).trans v4
    go_simp
    refine hK.out _ _ hHeld (fun hHeld => ?_)
    clear k0
    clear hK K
    refine rd1 2 (fun K hK => ?_)
    have qHR1_0 := HR1.out.at_ 0 rfl
    have qHR1_1 := HR1.out.at_ 1 rfl
    have qHR1_2 := HR1.out.at_ 2 rfl
    have qHR1_3 := HR1.out.at_ 3 rfl
    have qHR1_4 := HR1.out.at_ 4 rfl
    have sHR1_0 := HR1.out.soft 0
    have sHR1_1 := HR1.out.soft 1
    have sHR1_2 := HR1.out.soft 2
    have sHR1_3 := HR1.out.soft 3
    have sHR1_4 := HR1.out.soft 4
    go_simp
    refine hK.out _ _ (((((hHeld.setCell (p := ⟨W.heap.size + 1, 0, none⟩) (Nat.le_refl _) (.slice none 0 0)).setCell (p := ⟨W.heap.size + 1, 1, none⟩) (Nat.le_refl _) (.slice none 0 0)).setCell (p := ⟨W.heap.size + 1, 2, none⟩) (Nat.le_refl _) (.slice none 0 0)).setCell (p := ⟨W.heap.size + 1, 3, none⟩) (Nat.le_refl _) (.int .i64 0)).setCell (p := ⟨W.heap.size + 1, 4, none⟩) (Nat.le_refl _) (.int .i64 0)) (fun hHeld => ?_)
    clear qHR1_0 sHR1_0 qHR1_1 sHR1_1 qHR1_2 sHR1_2 qHR1_3 sHR1_3 qHR1_4 sHR1_4
    clear hK K
    refine tk 3 hHeld ?_
    refine rd0 ?_
    have HF := Lib.hid hHeld
    clear hHeld
    have qHR1_0 := HR1.out.at_ 0 rfl
    have qHR1_1 := HR1.out.at_ 1 rfl
    have qHR1_2 := HR1.out.at_ 2 rfl
    have qHR1_3 := HR1.out.at_ 3 rfl
    have qHR1_4 := HR1.out.at_ 4 rfl
    go_wp2
    refine bodyPost_ret (v := .tuple #[.agg #[.slice none 0 0, .slice none 0 0, .slice none 0 0, .int .i64 0, .int .i64 0], .iface 109 (.pointer (some a4))]) (by simp [results, Tryd.results25, go_sem, *]) rfl ?_
    exact ⟨rfl, HB1.out.trans (HF.out.mono (Nat.le_succ _))⟩
  · skip
    have qHR1_0 := HR1.out.at_ 0 rfl
    have qHR1_1 := HR1.out.at_ 1 rfl
    have qHR1_2 := HR1.out.at_ 2 rfl
    have qHR1_3 := HR1.out.at_ 3 rfl
    have qHR1_4 := HR1.out.at_ 4 rfl
    have sHR1_0 := HR1.out.soft 0
    have sHR1_1 := HR1.out.soft 1
    have sHR1_2 := HR1.out.soft 2
    have sHR1_3 := HR1.out.soft 3
    have sHR1_4 := HR1.out.soft 4
    go_simp
    refine hK.out _ _ (((((hHeld.setCell (p := ⟨W.heap.size + 1, 0, none⟩) (Nat.le_refl _) (.slice none 0 0)).setCell (p := ⟨W.heap.size + 1, 1, none⟩) (Nat.le_refl _) (.slice none 0 0)).setCell (p := ⟨W.heap.size + 1, 2, none⟩) (Nat.le_refl _) (.slice none 0 0)).setCell (p := ⟨W.heap.size + 1, 3, none⟩) (Nat.le_refl _) (.int .i64 0)).setCell (p := ⟨W.heap.size + 1, 4, none⟩) (Nat.le_refl _) (.int .i64 0)) (fun hHeld => ?_)
    clear qHR1_0 sHR1_0 qHR1_1 sHR1_1 qHR1_2 sHR1_2 qHR1_3 sHR1_3 qHR1_4 sHR1_4
    clear hK K
    refine rd1 1 (fun K hK => ?_)
    have k0 := (hHeld.cell (p := ⟨3, 0, none⟩) hgv).trans v4
    go_simp
    refine hK.out _ _ hHeld (fun hHeld => ?_)
    clear k0
    clear hK K
    refine tk 3 hHeld ?_
    refine rd0 ?_
    have HF := Lib.hid hHeld
    clear hHeld
    have qHR1_0 := HR1.out.at_ 0 rfl
    have qHR1_1 := HR1.out.at_ 1 rfl
    have qHR1_2 := HR1.out.at_ 2 rfl
    have qHR1_3 := HR1.out.at_ 3 rfl
    have qHR1_4 := HR1.out.at_ 4 rfl
    go_wp2
    refine bodyPost_ret (v := .tuple #[.agg #[.slice none 0 0, .slice none 0 0, .slice none 0 0, .int .i64 0, .int .i64 0], .iface 109 (.pointer (some a4))]) (by simp [results, Tryd.results25, go_sem, *]) rfl ?_
    exact ⟨rfl, HB1.out.trans (HF.out.mono (Nat.le_succ _))⟩
end Go.Proofs.YtphklknaagjmpaaDoor.RepC
end
section
namespace Go.Proofs.YtphklknaagjmpaaDoor.RepC
open SenC IsC Go.RowKit RowC ValC SpanC KeptC
set_option linter.unusedVariables false
set_option linter.unusedSimpArgs false
theorem ow_fin {d : D_DeskStep} {us : List Value} {w V : World} {g lo a b : Nat} (h : R_DeskStep.ow w (Rg a b) d us) (hoff : Off (fun x => x = g) w V) (hb : b ≤ w.heap.size) (hg : g < a) (hlo : lo ≤ a) : R_DeskStep.ow V (Rg lo V.heap.size) d us := by
  have hs := hoff.size
  refine R_DeskStep_ok.ow_more (R_DeskStep_ok.ow_keep h fun k hk => ?_) fun k hk => ?_
  · unfold Rg at hk
    exact hoff.block k (by omega) (by intro e; subst e; omega)
  · unfold Rg at hk ⊢
    omega
set_option maxRecDepth 100000 in
set_option maxHeartbeats 1000000 in
theorem next_ok {P B A : List D_Letter} {pa ba aa : Option Addr} {pc bc ac : Nat} {u n : Int} {W : World} (hY : DeskR P B A u n) (hn : n ≠ 999900) (hP : RdSl R_Letter W W.heap.size P pa pc) (hB : RdSl R_Letter W W.heap.size B ba bc) (hA : RdSl R_Letter W W.heap.size A aa ac) : Calls Tryd.prog 25 #[.agg #[.slice pa P.length pc, .slice ba B.length bc, .slice aa A.length ac, .int .i64 u, .int .i64 n]] W fun e w' => ∃ us : List Value, e = .returned (.tuple #[.agg us.toArray, .nilIface]) ∧ R_Desk.ow w' (Rg W.heap.size w'.heap.size) (P, [], A, 0, n + 1) us ∧ Below W.heap.size W w' := by
  have hr := hY.2.1
  simp only [isB, Bool.and_eq_true, decide_eq_true_iff] at hr
  have hP4 : P.length ≤ 4 := hY.1.1
  have hA20 : A.length ≤ 20 := by have := hY.2.2.2.1.1; omega
  have hbe : (n == 999900) = false := by simpa using hn
  have hwr : IntKind.i64.wrap (n + 1) = n + 1 := IntWalk.i64_in _ (by omega)
  obtain ⟨hb0, hd0, hr0⟩ := bx2 W #[.slice pa P.length pc, .slice ba B.length bc, .slice aa A.length ac, .int .i64 u, .int .i64 n] #[.slice none 0 0, .slice none 0 0, .slice none 0 0, .int .i64 0, .int .i64 0] 25 25
  obtain ⟨w0, hw0⟩ : ∃ w, w = (W.alloc (.cells #[.slice pa P.length pc, .slice ba B.length bc, .slice aa A.length ac, .int .i64 u, .int .i64 n] 25)).alloc (.cells #[.slice none 0 0, .slice none 0 0, .slice none 0 0, .int .i64 0, .int .i64 0] 25) := ⟨_, rfl⟩
  rw [← hw0] at hb0 hd0 hr0
  have HB0 := Lib.hid hb0
  have HR0 := Lib.hid hr0
  have HD0 := Lib.hid hd0
  have HP0 := Lib.hid hP
  have HA0 := Lib.hid hA
  have HPw := Lib.hid (gmvS hP hb0)
  have HBw := Lib.hid (gmvS hB hb0)
  have HAw := Lib.hid (gmvS hA hb0)
  have hz0 := hb0.size
  have HY := Lib.hid hY
  have HNE := Lib.hid hn
  clear hb0 hd0 hr0 hP hB hA hY hn
  go_enter Tryd.func25, Tryd.ntmps25
  go_wp2_with fail
  rw [← hw0]
  clear hw0
  refine ((box_impl HPw.out HBw.out HAw.out).mono (fun _ _ => resB_at (b := true) (by simp [HY.out]))).mono ?_
  rintro e w1 ⟨rfl, hb⟩
  have HB1 := Lib.hid (HB0.out.trans (hb.mono hz0))
  have hz1 := HB1.out.size
  have HR1 := Lib.hid (HR0.out.call hb)
  have HD1 := Lib.hid (HD0.out.call hb)
  have qHD1_0 := HD1.out.at_ 0 rfl
  have qHD1_1 := HD1.out.at_ 1 rfl
  have qHD1_2 := HD1.out.at_ 2 rfl
  have qHD1_3 := HD1.out.at_ 3 rfl
  have qHD1_4 := HD1.out.at_ 4 rfl
  have hlt1 : W.heap.size + 1 < w1.heap.size := HR1.out.lt
  have hle1 : W.heap.size + 1 ≤ w1.heap.size := Nat.le_of_lt hlt1
  clear hb
  go_wp2_with fail
  refine wp_region_held_drew (S := (fun V => Below (W.heap.size + 1) w1 V)) (by kernel_rfl) ((Below.refl _ _).drew) (fun hHeld => ?_)
  refine tk 0 hHeld ?_
  refine tk 1 hHeld ?_ (hy := fun w hSw => by (try dsimp only at hSw); have k0 := (hSw.cell (p := ⟨W.heap.size, 0, none⟩) (Nat.lt_succ_self _)).trans (HD1.out.at_ 0 rfl); have k1 := (hSw.cell (p := ⟨W.heap.size, 1, none⟩) (Nat.lt_succ_self _)).trans (HD1.out.at_ 1 rfl); have k2 := (hSw.cell (p := ⟨W.heap.size, 2, none⟩) (Nat.lt_succ_self _)).trans (HD1.out.at_ 2 rfl); have k3 := (hSw.cell (p := ⟨W.heap.size, 3, none⟩) (Nat.lt_succ_self _)).trans (HD1.out.at_ 3 rfl); have k4 := (hSw.cell (p := ⟨W.heap.size, 4, none⟩) (Nat.lt_succ_self _)).trans (HD1.out.at_ 4 rfl); clear hSw; go_simp; try with_reducible rfl)
  refine tk 3 hHeld ?_
  refine tk 4 hHeld ?_ (hy := fun w hSw => by (try dsimp only at hSw); have k0 := (hSw.cell (p := ⟨W.heap.size, 0, none⟩) (Nat.lt_succ_self _)).trans (HD1.out.at_ 0 rfl); have k1 := (hSw.cell (p := ⟨W.heap.size, 1, none⟩) (Nat.lt_succ_self _)).trans (HD1.out.at_ 1 rfl); have k2 := (hSw.cell (p := ⟨W.heap.size, 2, none⟩) (Nat.lt_succ_self _)).trans (HD1.out.at_ 2 rfl); have k3 := (hSw.cell (p := ⟨W.heap.size, 3, none⟩) (Nat.lt_succ_self _)).trans (HD1.out.at_ 3 rfl); have k4 := (hSw.cell (p := ⟨W.heap.size, 4, none⟩) (Nat.lt_succ_self _)).trans (HD1.out.at_ 4 rfl); clear hSw; go_simp; try with_reducible rfl)
  refine tk 6 hHeld ?_
  refine tk 7 hHeld ?_ (hy := fun w hSw => by (try dsimp only at hSw); have k0 := (hSw.cell (p := ⟨W.heap.size, 0, none⟩) (Nat.lt_succ_self _)).trans (HD1.out.at_ 0 rfl); have k1 := (hSw.cell (p := ⟨W.heap.size, 1, none⟩) (Nat.lt_succ_self _)).trans (HD1.out.at_ 1 rfl); have k2 := (hSw.cell (p := ⟨W.heap.size, 2, none⟩) (Nat.lt_succ_self _)).trans (HD1.out.at_ 2 rfl); have k3 := (hSw.cell (p := ⟨W.heap.size, 3, none⟩) (Nat.lt_succ_self _)).trans (HD1.out.at_ 3 rfl); have k4 := (hSw.cell (p := ⟨W.heap.size, 4, none⟩) (Nat.lt_succ_self _)).trans (HD1.out.at_ 4 rfl); clear hSw; go_simp; try with_reducible rfl)
  refine tk 8 hHeld ?_
  refine rd1 2 (fun K hK => ?_)
  go_simp
  go_at_call 44
  refine (letters1_impl (by omega) ((HP0.out.below R_Letter_ok (HB1.out.trans (hHeld.mono (Nat.le_succ _)))).more R_Letter_ok (HB1.out.trans (hHeld.mono (Nat.le_succ _))).size)).mono ?_
  intro e w2 h
  obtain ⟨xa, xc, rfl, ho, hb⟩ := newS_elim h
  have HX := Lib.hid ho
  have HS12 := Lib.hid (show w1.heap.size ≤ w2.heap.size from hb.size)
  have HR2 := Lib.hid (show Blk w2 (W.heap.size + 1) 25 #[.slice none 0 0, .slice none 0 0, .slice none 0 0, .int .i64 0, .int .i64 0] from ((show Blk w1.drew (W.heap.size + 1) 25 #[.slice none 0 0, .slice none 0 0, .slice none 0 0, .int .i64 0, .int .i64 0] from HR1.out).call hb))
  refine hK.out _ _ (hHeld.trans (hb.mono (Nat.le_trans hle1 hHeld.size))) (fun hHeld => ?_)
  clear h ho hb
  clear hK K
  refine rd1 5 (fun K hK => ?_)
  go_simp
  go_at_call 44
  refine (letters1_impl (by omega) ((HA0.out.below R_Letter_ok (HB1.out.trans (hHeld.mono (Nat.le_succ _)))).more R_Letter_ok (HB1.out.trans (hHeld.mono (Nat.le_succ _))).size)).mono ?_
  intro e w3 h
  obtain ⟨ya, yc, rfl, ho, hb⟩ := newS_elim h
  have HX3 := Lib.hid (OwSl.keep R_Letter_ok HX.out fun k hk => hb.block k hk.2)
  have HY3 := Lib.hid ho
  have HS23 := Lib.hid hb.size
  have HR3 := Lib.hid (HR2.out.call hb)
  have qHR3_0 := HR3.out.at_ 0 rfl
  have qHR3_1 := HR3.out.at_ 1 rfl
  have qHR3_2 := HR3.out.at_ 2 rfl
  have qHR3_3 := HR3.out.at_ 3 rfl
  have qHR3_4 := HR3.out.at_ 4 rfl
  have sHR3_0 := HR3.out.soft 0
  have sHR3_1 := HR3.out.soft 1
  have sHR3_2 := HR3.out.soft 2
  have sHR3_3 := HR3.out.soft 3
  have sHR3_4 := HR3.out.soft 4
  refine hK.out _ _ (hHeld.trans (hb.mono (Nat.le_trans hle1 hHeld.size))) (fun hHeld => ?_)
  clear h ho hb
  clear hK K
  refine tk 9 hHeld ?_
  refine rd1 10 (fun K hK => ?_)
  go_simp
  have HVV := Lib.hid hHeld
  refine hK.out _ _ (((((hHeld.setCell (p := ⟨W.heap.size + 1, 0, none⟩) (Nat.le_refl _) (.slice xa P.length xc)).setCell (p := ⟨W.heap.size + 1, 1, none⟩) (Nat.le_refl _) (.slice none 0 0)).setCell (p := ⟨W.heap.size + 1, 2, none⟩) (Nat.le_refl _) (.slice ya A.length yc)).setCell (p := ⟨W.heap.size + 1, 3, none⟩) (Nat.le_refl _) (.int .i64 0)).setCell (p := ⟨W.heap.size + 1, 4, none⟩) (Nat.le_refl _) (.int .i64 (n + 1))) (fun hHeld => ?_)
  clear hK K
  refine tk 11 hHeld ?_
  refine rd0 ?_
  have HF := Lib.hid hHeld
  clear hHeld
  go_wp2
  refine bodyPost_ret (v := .tuple #[.agg #[.slice xa P.length xc, .slice none 0 0, .slice ya A.length yc, .int .i64 0, .int .i64 (n + 1)], .nilIface]) (by simp [results, Tryd.results25, go_sem, *]) rfl ?_
  have hoff := ((((((Off.refl (fun x => x = W.heap.size + 1) w3).setCell (p := ⟨W.heap.size + 1, 0, none⟩) (rfl) (.slice xa P.length xc)).setCell (p := ⟨W.heap.size + 1, 1, none⟩) (rfl) (.slice none 0 0)).setCell (p := ⟨W.heap.size + 1, 2, none⟩) (rfl) (.slice ya A.length yc)).setCell (p := ⟨W.heap.size + 1, 3, none⟩) (rfl) (.int .i64 0)).setCell (p := ⟨W.heap.size + 1, 4, none⟩) (rfl) (.int .i64 (n + 1)))
  have hbb := ((((((HB1.out.trans (HVV.out.mono (Nat.le_succ _))).setCell (p := ⟨W.heap.size + 1, 0, none⟩) (Nat.le_succ _) (.slice xa P.length xc)).setCell (p := ⟨W.heap.size + 1, 1, none⟩) (Nat.le_succ _) (.slice none 0 0)).setCell (p := ⟨W.heap.size + 1, 2, none⟩) (Nat.le_succ _) (.slice ya A.length yc)).setCell (p := ⟨W.heap.size + 1, 3, none⟩) (Nat.le_succ _) (.int .i64 0)).setCell (p := ⟨W.heap.size + 1, 4, none⟩) (Nat.le_succ _) (.int .i64 (n + 1)))
  refine ⟨_, rfl, ?_, hbb⟩
  have hsz := hoff.size
  have h12 := HS12.out
  have h23 := HS23.out
  exact mkow_Desk (T0 := Rg w1.heap.size w2.heap.size) (T1 := fun _ => False) (T2 := Rg w2.heap.size w3.heap.size) (fun k hk => ⟨Nat.le_trans hz1 hk.1, by have := hk.2; omega⟩) (fun k h => h.elim) (fun k hk => ⟨by have := hk.1; omega, by have := hk.2; omega⟩) (fun k _ h => h) (fun k h1 h2 => by have := h1.2; have := h2.1; omega) (fun k h => h.elim)
    (OwSl.keep R_Letter_ok HX3.out fun k hk => hoff.block k (by have := hk.2; omega) (by intro e; have := hk.1; omega)) (nil_ow _ _) (OwSl.keep R_Letter_ok HY3.out fun k hk => hoff.block k hk.2 (by intro e; have := hk.1; omega))
set_option maxRecDepth 100000 in
set_option maxHeartbeats 1000000 in
theorem nexttime_impl {P B A : List D_Letter} {pa ba aa : Option Addr} {pc bc ac : Nat} {u n : Int} {W : World} {a1 a2 a3 a4 : Addr} (h : Sent W a1 a2 a3 a4) (hP : RdSl R_Letter W W.heap.size P pa pc) (hB : RdSl R_Letter W W.heap.size B ba bc) (hA : RdSl R_Letter W W.heap.size A aa ac) : Calls Tryd.prog 7 #[.agg #[.slice pa P.length pc, .slice ba B.length bc, .slice aa A.length ac, .int .i64 u, .int .i64 n]] W (NewV R_DeskStep (nextG (P, B, A, u, n)) W) := by
  obtain ⟨hb0, hd0, hr0⟩ := bx2 W #[.slice pa P.length pc, .slice ba B.length bc, .slice aa A.length ac, .int .i64 u, .int .i64 n] #[.slice none 0 0, .slice none 0 0, .slice none 0 0, .int .i64 0, .int .i64 0, .int .i64 0] 25 31
  obtain ⟨w0, hw0⟩ : ∃ w, w = (W.alloc (.cells #[.slice pa P.length pc, .slice ba B.length bc, .slice aa A.length ac, .int .i64 u, .int .i64 n] 25)).alloc (.cells #[.slice none 0 0, .slice none 0 0, .slice none 0 0, .int .i64 0, .int .i64 0, .int .i64 0] 31) := ⟨_, rfl⟩
  rw [← hw0] at hb0 hd0 hr0
  have HB0 := Lib.hid hb0
  have HR0 := Lib.hid hr0
  have HD0 := Lib.hid hd0
  have HS0 := Lib.hid (h.mv hb0)
  have HPw := Lib.hid (gmvS hP hb0)
  have HBw := Lib.hid (gmvS hB hb0)
  have HAw := Lib.hid (gmvS hA hb0)
  have hz0 := hb0.size
  clear hb0 hd0 hr0 hP hB hA h
  by_cases hY : DeskR P B A u n
  rotate_left
  · have HG := Lib.hid (show nextG (P, B, A, u, n) = (zeroD, 1) from by unfold nextG; rw [if_neg (by rw [boxB_iff]; exact hY)])
    go_enter Tryd.func7, Tryd.ntmps7
    go_wp2_with fail
    rw [← hw0]
    clear hw0
    refine (next_1 HS0.out HPw.out HBw.out HAw.out hY).mono ?_
    rintro e w1 ⟨rfl, hb⟩
    have HB1 := Lib.hid (HB0.out.trans (hb.mono hz0))
    have hz1 := HB1.out.size
    have HR1 := Lib.hid (HR0.out.call hb)
    have HS1 := Lib.hid (HS0.out.mv hb)
    clear hb
    go_wp2_with fail
    refine (step_1 HS1.out).mono ?_
    intro e w2 h
    obtain ⟨us, rfl, hu, hb⟩ := newV_elim h
    obtain ⟨va, vc, ua, uc, ta, tc, rfl, hu⟩ := owc_DeskStep (L0 := []) (L1 := []) (L2 := []) (x3 := 0) (x4 := 0) (x5 := 1) hu
    have HB2 := Lib.hid (HB1.out.trans (hb.mono hz1))
    have HR2 := Lib.hid (HR1.out.call hb)
    have qHR2_0 := HR2.out.at_ 0 rfl
    have qHR2_1 := HR2.out.at_ 1 rfl
    have qHR2_2 := HR2.out.at_ 2 rfl
    have qHR2_3 := HR2.out.at_ 3 rfl
    have qHR2_4 := HR2.out.at_ 4 rfl
    have qHR2_5 := HR2.out.at_ 5 rfl
    have sHR2_0 := HR2.out.soft 0
    have sHR2_1 := HR2.out.soft 1
    have sHR2_2 := HR2.out.soft 2
    have sHR2_3 := HR2.out.soft 3
    have sHR2_4 := HR2.out.soft 4
    have sHR2_5 := HR2.out.soft 5
    have HU2 := Lib.hid hu
    have hs2 := hb.size
    clear hu hb h
    go_wp2
    refine bodyPost_ret (v := .agg #[.slice va 0 vc, .slice ua 0 uc, .slice ta 0 tc, .int .i64 0, .int .i64 0, .int .i64 1]) (by simp [results, Tryd.results7, go_sem, *]) rfl ?_
    rw [HG.out]
    have hbb := ((((((HB2.out.setCell (p := ⟨W.heap.size + 1, 0, none⟩) (Nat.le_succ _) (.slice va 0 vc)).setCell (p := ⟨W.heap.size + 1, 1, none⟩) (Nat.le_succ _) (.slice ua 0 uc)).setCell (p := ⟨W.heap.size + 1, 2, none⟩) (Nat.le_succ _) (.slice ta 0 tc)).setCell (p := ⟨W.heap.size + 1, 3, none⟩) (Nat.le_succ _) (.int .i64 0)).setCell (p := ⟨W.heap.size + 1, 4, none⟩) (Nat.le_succ _) (.int .i64 0)).setCell (p := ⟨W.heap.size + 1, 5, none⟩) (Nat.le_succ _) (.int .i64 1))
    have hoff := (((((((Off.refl (fun x => x = W.heap.size + 1) w2).setCell (p := ⟨W.heap.size + 1, 0, none⟩) (rfl) (.slice va 0 vc)).setCell (p := ⟨W.heap.size + 1, 1, none⟩) (rfl) (.slice ua 0 uc)).setCell (p := ⟨W.heap.size + 1, 2, none⟩) (rfl) (.slice ta 0 tc)).setCell (p := ⟨W.heap.size + 1, 3, none⟩) (rfl) (.int .i64 0)).setCell (p := ⟨W.heap.size + 1, 4, none⟩) (rfl) (.int .i64 0)).setCell (p := ⟨W.heap.size + 1, 5, none⟩) (rfl) (.int .i64 1))
    exact ⟨_, rfl, ow_fin HU2.out hoff (Nat.le_refl _) HR1.out.lt hz1, hbb⟩
  by_cases hn : n = 999900
  · have HG := Lib.hid (show nextG (P, B, A, u, n) = (zeroD, 9) from by unfold nextG; rw [if_pos (by rw [boxB_iff]; exact hY), if_pos hn])
    subst hn
    go_enter Tryd.func7, Tryd.ntmps7
    go_wp2_with fail
    rw [← hw0]
    clear hw0
    refine (next_4 HS0.out HPw.out HBw.out HAw.out hY).mono ?_
    rintro e w1 ⟨rfl, hb⟩
    have HB1 := Lib.hid (HB0.out.trans (hb.mono hz0))
    have hz1 := HB1.out.size
    have HR1 := Lib.hid (HR0.out.call hb)
    have HS1 := Lib.hid (HS0.out.mv hb)
    clear hb
    go_wp2_with fail
    refine (step_4 HS1.out).mono ?_
    intro e w2 h
    obtain ⟨us, rfl, hu, hb⟩ := newV_elim h
    obtain ⟨va, vc, ua, uc, ta, tc, rfl, hu⟩ := owc_DeskStep (L0 := []) (L1 := []) (L2 := []) (x3 := 0) (x4 := 0) (x5 := 9) hu
    have HB2 := Lib.hid (HB1.out.trans (hb.mono hz1))
    have HR2 := Lib.hid (HR1.out.call hb)
    have qHR2_0 := HR2.out.at_ 0 rfl
    have qHR2_1 := HR2.out.at_ 1 rfl
    have qHR2_2 := HR2.out.at_ 2 rfl
    have qHR2_3 := HR2.out.at_ 3 rfl
    have qHR2_4 := HR2.out.at_ 4 rfl
    have qHR2_5 := HR2.out.at_ 5 rfl
    have sHR2_0 := HR2.out.soft 0
    have sHR2_1 := HR2.out.soft 1
    have sHR2_2 := HR2.out.soft 2
    have sHR2_3 := HR2.out.soft 3
    have sHR2_4 := HR2.out.soft 4
    have sHR2_5 := HR2.out.soft 5
    have HU2 := Lib.hid hu
    have hs2 := hb.size
    clear hu hb h
    go_wp2
    refine bodyPost_ret (v := .agg #[.slice va 0 vc, .slice ua 0 uc, .slice ta 0 tc, .int .i64 0, .int .i64 0, .int .i64 9]) (by simp [results, Tryd.results7, go_sem, *]) rfl ?_
    rw [HG.out]
    have hbb := ((((((HB2.out.setCell (p := ⟨W.heap.size + 1, 0, none⟩) (Nat.le_succ _) (.slice va 0 vc)).setCell (p := ⟨W.heap.size + 1, 1, none⟩) (Nat.le_succ _) (.slice ua 0 uc)).setCell (p := ⟨W.heap.size + 1, 2, none⟩) (Nat.le_succ _) (.slice ta 0 tc)).setCell (p := ⟨W.heap.size + 1, 3, none⟩) (Nat.le_succ _) (.int .i64 0)).setCell (p := ⟨W.heap.size + 1, 4, none⟩) (Nat.le_succ _) (.int .i64 0)).setCell (p := ⟨W.heap.size + 1, 5, none⟩) (Nat.le_succ _) (.int .i64 9))
    have hoff := (((((((Off.refl (fun x => x = W.heap.size + 1) w2).setCell (p := ⟨W.heap.size + 1, 0, none⟩) (rfl) (.slice va 0 vc)).setCell (p := ⟨W.heap.size + 1, 1, none⟩) (rfl) (.slice ua 0 uc)).setCell (p := ⟨W.heap.size + 1, 2, none⟩) (rfl) (.slice ta 0 tc)).setCell (p := ⟨W.heap.size + 1, 3, none⟩) (rfl) (.int .i64 0)).setCell (p := ⟨W.heap.size + 1, 4, none⟩) (rfl) (.int .i64 0)).setCell (p := ⟨W.heap.size + 1, 5, none⟩) (rfl) (.int .i64 9))
    exact ⟨_, rfl, ow_fin HU2.out hoff (Nat.le_refl _) HR1.out.lt hz1, hbb⟩
  have HG := Lib.hid (show nextG (P, B, A, u, n) = ((P, [], A, 0, n + 1), 0) from by unfold nextG; rw [if_pos (by rw [boxB_iff]; exact hY), if_neg hn])
  have HY := Lib.hid hY
  have HNE := Lib.hid hn
  clear hY hn
  go_enter Tryd.func7, Tryd.ntmps7
  go_wp2_with fail
  rw [← hw0]
  clear hw0
  refine (next_ok HY.out HNE.out HPw.out HBw.out HAw.out).mono ?_
  intro e w1 h
  obtain ⟨us, rfl, hu, hb⟩ := h
  obtain ⟨xa, xc, ya, yc, za, zc, rfl, hu⟩ := owc_Desk hu
  have HB1 := Lib.hid (HB0.out.trans (hb.mono hz0))
  have hz1 := HB1.out.size
  have HR1 := Lib.hid (HR0.out.call hb)
  have HU := Lib.hid hu
  clear hu hb
  go_wp2_with fail
  refine (step_ok HU.out (fun k hk => hk.2)).mono ?_
  intro e w2 h
  obtain ⟨us, rfl, hu, hb⟩ := h
  obtain ⟨va, vc, ua, uc, ta, tc, rfl, hu⟩ := owc_DeskStep hu
  have HB2 := Lib.hid (HB1.out.trans (hb.mono hz1))
  have HR2 := Lib.hid (HR1.out.call hb)
  have qHR2_0 := HR2.out.at_ 0 rfl
  have qHR2_1 := HR2.out.at_ 1 rfl
  have qHR2_2 := HR2.out.at_ 2 rfl
  have qHR2_3 := HR2.out.at_ 3 rfl
  have qHR2_4 := HR2.out.at_ 4 rfl
  have qHR2_5 := HR2.out.at_ 5 rfl
  have sHR2_0 := HR2.out.soft 0
  have sHR2_1 := HR2.out.soft 1
  have sHR2_2 := HR2.out.soft 2
  have sHR2_3 := HR2.out.soft 3
  have sHR2_4 := HR2.out.soft 4
  have sHR2_5 := HR2.out.soft 5
  have HU2 := Lib.hid hu
  have hs2 := hb.size
  clear hu hb
  go_wp2
  refine bodyPost_ret (v := .agg #[.slice va P.length vc, .slice ua 0 uc, .slice ta A.length tc, .int .i64 0, .int .i64 (n + 1), .int .i64 0]) (by simp [results, Tryd.results7, go_sem, *]) rfl ?_
  rw [HG.out]
  have hbb := ((((((HB2.out.setCell (p := ⟨W.heap.size + 1, 0, none⟩) (Nat.le_succ _) (.slice va P.length vc)).setCell (p := ⟨W.heap.size + 1, 1, none⟩) (Nat.le_succ _) (.slice ua 0 uc)).setCell (p := ⟨W.heap.size + 1, 2, none⟩) (Nat.le_succ _) (.slice ta A.length tc)).setCell (p := ⟨W.heap.size + 1, 3, none⟩) (Nat.le_succ _) (.int .i64 0)).setCell (p := ⟨W.heap.size + 1, 4, none⟩) (Nat.le_succ _) (.int .i64 (n + 1))).setCell (p := ⟨W.heap.size + 1, 5, none⟩) (Nat.le_succ _) (.int .i64 0))
  have hoff := (((((((Off.refl (fun x => x = W.heap.size + 1) w2).setCell (p := ⟨W.heap.size + 1, 0, none⟩) (rfl) (.slice va P.length vc)).setCell (p := ⟨W.heap.size + 1, 1, none⟩) (rfl) (.slice ua 0 uc)).setCell (p := ⟨W.heap.size + 1, 2, none⟩) (rfl) (.slice ta A.length tc)).setCell (p := ⟨W.heap.size + 1, 3, none⟩) (rfl) (.int .i64 0)).setCell (p := ⟨W.heap.size + 1, 4, none⟩) (rfl) (.int .i64 (n + 1))).setCell (p := ⟨W.heap.size + 1, 5, none⟩) (rfl) (.int .i64 0))
  exact ⟨_, rfl, ow_fin HU2.out hoff hs2 HR0.out.lt hz0, hbb⟩
end Go.Proofs.YtphklknaagjmpaaDoor.RepC
end
section
namespace Go.Proofs.YtphklknaagjmpaaDoor.RepC
open SenC IsC Go.RowKit RowC ValC SpanC KeptC
set_option linter.unusedVariables false
set_option linter.unusedSimpArgs false
theorem letG_no {d : D_Desk} {f t : D_Label} {w : Int} (h : ¬ (boxB d = true ∧ isB w 0 1000000 = true)) : letG d f t w = (zeroD, 1) := by unfold letG; exact if_neg h
theorem letG_label {d : D_Desk} {f t : D_Label} {w : Int} (h : boxB d = true ∧ isB w 0 1000000 = true) (h2 : ¬ HasCh d.1 f t) : letG d f t w = (zeroD, 11) := by unfold letG; rw [if_pos h]; exact if_neg h2
theorem letG_range {d : D_Desk} {f t : D_Label} {w : Int} (h : boxB d = true ∧ isB w 0 1000000 = true) (h2 : HasCh d.1 f t) (h3 : d.2.2.2.1 = 2) : letG d f t w = (zeroD, 8) := by unfold letG; rw [if_pos h, if_pos h2]; exact if_pos h3
theorem letG_full {d : D_Desk} {f t : D_Label} {w : Int} (h : boxB d = true ∧ isB w 0 1000000 = true) (h2 : HasCh d.1 f t) (h3 : ¬ d.2.2.2.1 = 2) (h4 : d.2.1.length = 6 ∨ d.2.2.1.length = 20) : letG d f t w = (zeroD, 9) := by unfold letG; rw [if_pos h, if_pos h2, if_neg h3]; exact if_pos h4
theorem letG_ok {P B A : List D_Letter} {u n : Int} {f t : D_Label} {w : Int} (h : boxB (P, B, A, u, n) = true ∧ isB w 0 1000000 = true) (h2 : HasCh P f t) (h3 : ¬ u = 2) (h4 : ¬ B.length = 6) (h5 : ¬ A.length = 20) : letG (P, B, A, u, n) f t w = ((P, B ++ [(f, t, n, w)], A ++ [(f, t, n, w)], u + 1, n), 0) := by unfold letG; rw [if_pos h, if_pos h2, if_neg h3]; exact if_neg (fun h => by rcases h with h | h; exact h4 h; exact h5 h)
theorem bx4 (W : World) (c0 c1 c2 c3 : Array Value) (T0 T1 T2 T3 : TypeId) : Below W.heap.size W ((((W.alloc (.cells c0 T0)).alloc (.cells c1 T1)).alloc (.cells c2 T2)).alloc (.cells c3 T3)) ∧ Blk ((((W.alloc (.cells c0 T0)).alloc (.cells c1 T1)).alloc (.cells c2 T2)).alloc (.cells c3 T3)) W.heap.size T0 c0 ∧ Blk ((((W.alloc (.cells c0 T0)).alloc (.cells c1 T1)).alloc (.cells c2 T2)).alloc (.cells c3 T3)) (W.heap.size + 1) T1 c1 ∧ Blk ((((W.alloc (.cells c0 T0)).alloc (.cells c1 T1)).alloc (.cells c2 T2)).alloc (.cells c3 T3)) (W.heap.size + 1 + 1) T2 c2 ∧ Blk ((((W.alloc (.cells c0 T0)).alloc (.cells c1 T1)).alloc (.cells c2 T2)).alloc (.cells c3 T3)) (W.heap.size + 1 + 1 + 1) T3 c3 := by
  have h := bx3 W c0 c1 c2 T0 T1 T2
  refine ⟨h.1.alloc h.1.size _, h.2.1.alloc _, h.2.2.1.alloc _, h.2.2.2.alloc _, ?_⟩
  have h := Blk.new (((W.alloc (.cells c0 T0)).alloc (.cells c1 T1)).alloc (.cells c2 T2)) T3 c3
  simpa only [World.size_alloc] using h
theorem But2.of {w w' : World} {g : Nat} (hb : Below w.heap.size w w') : But2 w w' g := ⟨hb.size, fun k hk _ => hb.block k hk, fun B _ hB => hb.mono hB⟩
theorem But2.trans {w w' w'' : World} {g : Nat} (h : But2 w w' g) (k : But2 w' w'' g) : But2 w w'' g := ⟨Nat.le_trans h.1 k.1, fun j hj hne => (k.2.1 j (Nat.lt_of_lt_of_le hj h.1) hne).trans (h.2.1 j hj hne), fun B hB hw => (h.2.2 B hB hw).trans (k.2.2 B hB (Nat.le_trans hw h.1))⟩
theorem But2.off {w w' : World} {g : Nat} (h : Off (fun k => k = g) w w') : But2 w w' g := ⟨h.size, fun k hk hne => h.block k hk hne, fun B hB hw => h.below hw (fun k hk => by rw [hk]; exact hB)⟩
theorem But2.cell {w w' : World} {g k i : Nat} {v : Value} (h : But2 w w' g) (hk : k < w.heap.size) (hne : k ≠ g) (hv : w.cell? ⟨k, i, none⟩ = some v) : w'.cell? ⟨k, i, none⟩ = some v := (World.cell?_of_block (a := ⟨k, i, none⟩) (h.2.1 k hk hne)).trans hv
def TupR (a1 a2 a3 a4 : Addr) (r : D_DeskStep) (W : World) (e : Ending) (w' : World) : Prop := ∃ us err, e = .returned (.tuple #[.agg (List.toArray us), err]) ∧ R_Desk.ow w' (Rg W.heap.size w'.heap.size) r.1 us ∧ Below W.heap.size W w' ∧ ((r.2 = 0 ∧ err = .nilIface) ∨ (us = [.slice none 0 0, .slice none 0 0, .slice none 0 0, .int .i64 0, .int .i64 0] ∧ ((r = (zeroD, 1) ∧ err = .iface 109 (.pointer (some a1))) ∨ (r = (zeroD, 11) ∧ err = .iface 109 (.pointer (some a2))) ∨ (r = (zeroD, 8) ∧ err = .iface 109 (.pointer (some a3))) ∨ (r = (zeroD, 9) ∧ err = .iface 109 (.pointer (some a4))))))
theorem zero_ow {W : World} {S : Nat → Prop} : R_Desk.ow W S zeroD [.slice none 0 0, .slice none 0 0, .slice none 0 0, .int .i64 0, .int .i64 0] := mkow_Desk (T0 := fun _ => False) (T1 := fun _ => False) (T2 := fun _ => False) (fun k h => h.elim) (fun k h => h.elim) (fun k h => h.elim) (fun k h => h.elim) (fun k h => h.elim) (fun k h => h.elim) (nil_ow W _) (nil_ow W _) (nil_ow W _)
theorem let_fin {P B A : List D_Letter} {xa ya za : Option Addr} {xc yc zc nb na a1 b1 a2 b2 a3 b3 g W0 : Nat} {m n : Int} {w V : World} (h1 : OwSl R_Letter w (Rg a1 b1) P xa xc) (h2 : OwSl R_Letter w (Rg a2 b2) B ya yc) (h3 : OwSl R_Letter w (Rg a3 b3) A za zc) (h12 : b1 ≤ a2) (h23 : b2 ≤ a3) (e1 : a1 ≤ b1) (e2 : a2 ≤ b2) (e3 : b3 ≤ w.heap.size) (hoff : Off (fun k => k = g) w V) (hg : g < a1) (hW : W0 ≤ a1) (e4 : b2 ≤ w.heap.size) (e5 : b1 ≤ w.heap.size) (hB : B.length = nb) (hA : A.length = na) :
    R_Desk.ow V (Rg W0 V.heap.size) (P, B, A, m, n) [.slice xa P.length xc, .slice ya nb yc, .slice za na zc, .int .i64 m, .int .i64 n] := by
  subst hB hA
  have hs := hoff.size
  refine mkow_Desk (T0 := Rg a1 b1) (T1 := Rg a2 b2) (T2 := Rg a3 b3) (fun k hk => ?_) (fun k hk => ?_) (fun k hk => ?_) (fun k h h' => ?_) (fun k h h' => ?_) (fun k h h' => ?_) (OwSl.keep R_Letter_ok h1 fun k hk => hoff.block k ?_ fun e => ?_) (OwSl.keep R_Letter_ok h2 fun k hk => hoff.block k ?_ fun e => ?_) (OwSl.keep R_Letter_ok h3 fun k hk => hoff.block k ?_ fun e => ?_) <;> (try subst e) <;> (unfold Rg at *; omega)
end Go.Proofs.YtphklknaagjmpaaDoor.RepC
end
section
namespace Go.Proofs.YtphklknaagjmpaaDoor.LabC
open Go.RowKit KeptC
set_option linter.unusedVariables false
def AB (s t : Int) : Int := bits BinOp.and IntKind.i64 s t
theorem bB_mk (l s m t : Int) : bB l s m t = (decide (l ≤ m) && (AB s t == s)) := rfl
end Go.Proofs.YtphklknaagjmpaaDoor.LabC
end
section
namespace Go.Proofs.YtphklknaagjmpaaDoor.RepC
open Go.RowKit RowC ValC SpanC KeptC
set_option linter.unusedVariables false
theorem ab_self : ((List.range 8).all fun a => LabC.AB (a : Int) (a : Int) == (a : Int)) = true := by kernel_rfl
theorem dn_below_self {l s : Int} (h : LabC.rB l s = true) : LabC.belowB l s l s = true := by
  rw [LabC.below_yes h h, LabC.bB_mk]
  obtain ⟨h1, h2, h3, h4⟩ := (LabC.rB_iff l s).1 h
  obtain ⟨a, rfl⟩ := Int.eq_ofNat_of_zero_le h3
  have := List.all_eq_true.1 ab_self a (List.mem_range.2 (by omega))
  simp only [beq_iff_eq] at this
  simp [this]
theorem dn_isB {n lo hi : Int} : isB n lo hi = true ↔ lo ≤ n ∧ n ≤ hi := isB_iff n lo hi
theorem dn_let_ok {P B A : List D_Letter} {u n : Int} {f t : D_Label} {w : Int} {D : D_Desk} (h : letG (P, B, A, u, n) f t w = (D, 0)) :
    DeskR P B A u n ∧ isB w 0 1000000 = true ∧ HasCh P f t ∧ u ≠ 2 ∧ B.length ≠ 6 ∧ A.length ≠ 20 ∧ D = (P, B ++ [(f, t, n, w)], A ++ [(f, t, n, w)], u + 1, n) := by
  unfold letG at h
  split at h
  · rename_i h1
    split at h
    · rename_i h2
      split at h
      · simp at h
      · rename_i h3
        split at h
        · simp at h
        · rename_i h4
          simp only [Prod.mk.injEq, and_true] at h
          exact ⟨boxB_iff.1 h1.1, h1.2, h2, h3, fun e => h4 (.inl e), fun e => h4 (.inr e), by rw [← h]⟩
    · simp at h
  · simp at h
theorem dn_snoc {P : List D_Letter} {n : Int} {L : List D_Letter} {m : Int} {x : D_Letter} (h : LettersR P n L m) (hl : (L.length : Int) + 1 ≤ m) (h1 : HasCh P x.1 x.2.1) (h2 : x.2.2.1 = n) (h0 : 0 ≤ n) (h3 : isB x.2.2.2 0 1000000 = true) : LettersR P n (L ++ [x]) m := by
  refine ⟨by rw [List.length_append]; simpa using hl, fun i y hy => ?_⟩
  by_cases hi : i < L.length
  · have hy' : L[i]? = some y := by rw [List.getElem?_append_left hi] at hy; exact hy
    obtain ⟨a, b, c, d⟩ := h.2 i y hy'
    refine ⟨a, b, c, fun z hz hz2 => d z hz ?_⟩
    rw [List.getElem?_append_left (by omega)] at hz2
    exact hz2
  · have hie : i = L.length := by
      have := (List.getElem?_eq_some_iff.1 hy).1
      simp at this
      omega
    subst hie
    have hyx : y = x := by simpa using hy.symm
    subst hyx
    refine ⟨h1, dn_isB.2 (by omega), h3, fun z hz hz2 => ?_⟩
    rw [List.getElem?_append_left (by omega)] at hz2
    have := dn_isB.1 (h.2 _ z hz2).2.1
    omega
theorem dn_let_right {P B A : List D_Letter} {u n : Int} {f t : D_Label} {w : Int} {D : D_Desk} (h : letG (P, B, A, u, n) f t w = (D, 0)) : boxB D = true := by
  obtain ⟨⟨hP, hn, hB, hA, hu, hm, hc⟩, hw, hch, h2, h6, h20, rfl⟩ := dn_let_ok h
  have hn' := dn_isB.1 hn
  have hu' := dn_isB.1 hu
  have hB1 := hB.1
  have hA1 := hA.1
  refine boxB_iff.2 ⟨hP, hn, dn_snoc hB (by omega) hch rfl hn'.1 hw, dn_snoc hA (by omega) hch rfl hn'.1 hw, dn_isB.2 (by omega), fun x hx => ?_, ?_⟩
  · rcases List.mem_append.1 hx with hx | hx
    · exact List.mem_append_left _ (hm x hx)
    · exact List.mem_append_right _ hx
  · rw [cntAt_app, hc]; simp [cntAt]
theorem dn_cnt_none {n : Int} : ∀ (A : List D_Letter), (∀ x ∈ A, x.2.2.1 < n) → cntAt n A = 0
  | [], _ => rfl
  | x :: xs, h => by
    have h1 := h x (by simp)
    simp only [cntAt]
    rw [if_neg (by omega), dn_cnt_none xs fun y hy => h y (by simp [hy])]
theorem dn_next_ok {P B A : List D_Letter} {u n : Int} {D : D_Desk} (h : nextG (P, B, A, u, n) = (D, 0)) : DeskR P B A u n ∧ n ≠ 999900 ∧ D = (P, [], A, 0, n + 1) := by
  unfold nextG at h
  split at h
  · rename_i h1
    split at h
    · simp at h
    · rename_i h2
      simp only [Prod.mk.injEq, and_true] at h
      exact ⟨boxB_iff.1 h1, h2, h.symm⟩
  · simp at h
theorem dn_next_right {P B A : List D_Letter} {u n : Int} {D : D_Desk} (h : nextG (P, B, A, u, n) = (D, 0)) : boxB D = true := by
  obtain ⟨⟨hP, hn, hB, hA, hu, hm, hc⟩, h9, rfl⟩ := dn_next_ok h
  have hn' := dn_isB.1 hn
  refine boxB_iff.2 ⟨hP, dn_isB.2 (by omega), ⟨by simp, fun i x hx => by simp at hx⟩, ⟨hA.1, fun i x hx => ?_⟩, dn_isB.2 (by omega), (fun x hx => by cases hx), ?_⟩
  · obtain ⟨a, b, c, d⟩ := hA.2 i x hx
    have := dn_isB.1 b
    exact ⟨a, dn_isB.2 (by omega), c, d⟩
  · rw [dn_cnt_none A fun x hx => ?_]; rfl
    obtain ⟨i, hi⟩ := List.getElem?_of_mem hx
    have := dn_isB.1 (hA.2 i x hi).2.1
    omega
theorem let_reads {P B A : List D_Letter} {u n : Int} {f : D_Label} {t0 t1 w : Int} {D : D_Desk} (h : letG (P, B, A, u, n) f (t0, t1) w = (D, 0)) : ∃ M : List Int, readG D t0 t1 = M ++ [w] := by
  have hr := boxB_iff.1 (show boxB (D.1, D.2.1, D.2.2.1, D.2.2.2.1, D.2.2.2.2) = true from dn_let_right h)
  obtain ⟨⟨hP, hn, hB, hA, hu, hm, hc⟩, hw, hch, h2, h6, h20, rfl⟩ := dn_let_ok h
  obtain ⟨x, hx, _, hxt⟩ := hch
  obtain ⟨i, hi⟩ := List.getElem?_of_mem hx
  have hrt : LabC.rB t0 t1 = true := by have := (hP.2 i x hi).2.1; rw [hxt] at this; exact this
  refine ⟨(B.filter fun x => LabC.belowB x.2.1.1 x.2.1.2 t0 t1).map fun x => x.2.2.2, ?_⟩
  show readD _ _ _ _ _ t0 t1 = _
  rw [readD_yes ⟨hr, hrt⟩, List.filter_append, List.map_append]
  simp [dn_below_self hrt]
theorem next_reads {P B A : List D_Letter} {u n l s : Int} {D : D_Desk} (h : nextG (P, B, A, u, n) = (D, 0)) : readG D l s = [] := by
  have hr := boxB_iff.1 (show boxB (D.1, D.2.1, D.2.2.1, D.2.2.2.1, D.2.2.2.2) = true from dn_next_right h)
  obtain ⟨_, _, rfl⟩ := dn_next_ok h
  show readD _ _ _ _ _ l s = _
  by_cases hrt : LabC.rB l s = true
  · rw [readD_yes ⟨hr, hrt⟩]; rfl
  · rw [readD_no (fun h => hrt h.2)]
def DrawD (d : D_Desk) : Prop := 2 ≤ d.1.length ∧ d.1.length ≤ 4 ∧ d.2.1.length ≤ 8 ∧ d.2.2.1.length ≤ 20 ∧ 0 ≤ d.2.2.2.2 ∧ d.2.2.2.2 ≤ 1000000
theorem draw_let {d : D_Desk} {f t : D_Label} {w : Int} {D : D_Desk} (hd : DrawD d) (h : letG d f t w = (D, 0)) : DrawD D := by
  obtain ⟨P, B, A, u, n⟩ := d
  obtain ⟨⟨_, _, hB, hA, _⟩, _, _, _, h6, h20, rfl⟩ := dn_let_ok h
  have hB1 := hB.1
  have hA1 := hA.1
  exact ⟨hd.1, hd.2.1, by rw [List.length_append]; simp only [List.length_singleton]; omega, by rw [List.length_append]; simp only [List.length_singleton]; omega, hd.2.2.2.2⟩
theorem draw_next {d : D_Desk} {D : D_Desk} (hd : DrawD d) (h : nextG d = (D, 0)) : DrawD D := by
  obtain ⟨P, B, A, u, n⟩ := d
  obtain ⟨⟨_, hn, _⟩, h9, rfl⟩ := dn_next_ok h
  have hn' := dn_isB.1 hn
  exact ⟨hd.1, hd.2.1, by simp, hd.2.2.2.1, by simp; omega, by simp; omega⟩
end Go.Proofs.YtphklknaagjmpaaDoor.RepC
end
section
namespace Go.Proofs.YtphklknaagjmpaaDoor.RepC
open Go.RowKit RowC ValC SpanC KeptC
set_option linter.unusedVariables false
set_option linter.unusedSimpArgs false
theorem LRow.low {w : World} {lo lo' : Nat} {v : Value} {L : List D_Letter} (h : LRow w lo v L) (hl : lo' ≤ lo) : LRow w lo' v L := by
  obtain ⟨⟨h1, h2⟩, hb⟩ := h
  refine ⟨⟨h1, ?_⟩, fun k hk => ⟨Nat.le_trans hl (hb k hk).1, (hb k hk).2⟩⟩
  rcases h2 with h2 | ⟨g, cap, cur, hv, hg, h3⟩
  · exact .inl h2
  · exact .inr ⟨g, cap, cur, hv, Nat.le_trans hl hg, h3⟩
structure R3 (w : World) (lo : Nat) (P B A : List D_Letter) (xa : Option Addr) (xc : Nat) (ya : Option Addr) (yc : Nat) (za : Option Addr) (zc : Nat) : Prop where
  x : LRow w lo (.slice xa P.length xc) P
  y : LRow w lo (.slice ya B.length yc) B
  z : LRow w lo (.slice za A.length zc) A
  d1 : ∀ k, (Value.slice xa P.length xc).ownBlock = some k → (Value.slice ya B.length yc).ownBlock ≠ some k ∧ (Value.slice za A.length zc).ownBlock ≠ some k
  d2 : ∀ k, (Value.slice ya B.length yc).ownBlock = some k → (Value.slice za A.length zc).ownBlock ≠ some k
theorem R3.mv {w w' : World} {lo : Nat} {P B A : List D_Letter} {xa ya za : Option Addr} {xc yc zc : Nat} (h : R3 w lo P B A xa xc ya yc za zc) (hs : w.heap.size ≤ w'.heap.size) (hb : ∀ k, lo ≤ k → k < w.heap.size → w'.heap[k]? = w.heap[k]?) : R3 w' lo P B A xa xc ya yc za zc :=
  ⟨h.x.mv hs fun k hk => hb k (h.x.blk k hk).1 (h.x.blk k hk).2, h.y.mv hs fun k hk => hb k (h.y.blk k hk).1 (h.y.blk k hk).2, h.z.mv hs fun k hk => hb k (h.z.blk k hk).1 (h.z.blk k hk).2, h.d1, h.d2⟩
theorem R3.call {w w' : World} {lo : Nat} {P B A : List D_Letter} {xa ya za : Option Addr} {xc yc zc : Nat} (h : R3 w lo P B A xa xc ya yc za zc) (hb : Below w.heap.size w w') : R3 w' lo P B A xa xc ya yc za zc := h.mv hb.size fun k _ hk => hb.block k hk
theorem R3.low {w : World} {lo lo' : Nat} {P B A : List D_Letter} {xa ya za : Option Addr} {xc yc zc : Nat} (h : R3 w lo P B A xa xc ya yc za zc) (hl : lo' ≤ lo) : R3 w lo' P B A xa xc ya yc za zc := ⟨h.x.low hl, h.y.low hl, h.z.low hl, h.d1, h.d2⟩
theorem R3.rd {w : World} {lo : Nat} {P B A : List D_Letter} {xa ya za : Option Addr} {xc yc zc : Nat} (h : R3 w lo P B A xa xc ya yc za zc) (u n : Int) : R_Desk.rd w w.heap.size (P, B, A, u, n) [.slice xa P.length xc, .slice ya B.length yc, .slice za A.length zc, .int .i64 u, .int .i64 n] :=
  mkrd_Desk (h.x.ow.rd R_Letter_ok fun k hk => (h.x.blk k hk).2) (h.y.ow.rd R_Letter_ok fun k hk => (h.y.blk k hk).2) (h.z.ow.rd R_Letter_ok fun k hk => (h.z.blk k hk).2)
theorem R3.nils (w : World) (lo : Nat) : R3 w lo [] [] [] none 0 none 0 none 0 :=
  ⟨FRow.none_ _ _ _ _ _, FRow.none_ _ _ _ _ _, FRow.none_ _ _ _ _ _, (fun k hk => by cases hk), (fun k hk => by cases hk)⟩
def RowsD (V : World) (W0 : Nat) (d : D_DeskStep) (cs : List Value) : Prop := ∃ xa xc ya yc za zc, cs = [.slice xa d.1.1.length xc, .slice ya d.1.2.1.length yc, .slice za d.1.2.2.1.length zc, .int .i64 d.1.2.2.2.1, .int .i64 d.1.2.2.2.2, .int .i64 d.2] ∧ R3 V W0 d.1.1 d.1.2.1 d.1.2.2.1 xa xc ya yc za zc
def NewR (d : D_DeskStep) (W : World) (e : Ending) (w' : World) : Prop := ∃ us : List Value, e = .returned (.agg us.toArray) ∧ RowsD w' W.heap.size d us ∧ Below W.heap.size W w'
theorem newR_elim {d : D_DeskStep} {W : World} {e : Ending} {w' : World} (h : NewR d W e w') : ∃ us : List Value, e = .returned (.agg us.toArray) ∧ RowsD w' W.heap.size d us ∧ Below W.heap.size W w' := h
theorem step_rows (c : Int) {W : World} {W0 : Nat} : RowsD W W0 (zeroD, c) [.slice none 0 0, .slice none 0 0, .slice none 0 0, .int .i64 0, .int .i64 0, .int .i64 c] := ⟨none, 0, none, 0, none, 0, rfl, R3.nils _ _⟩
theorem let_rows {P B A : List D_Letter} {xa ya za : Option Addr} {xc yc zc nb na g lo W0 : Nat} {m n : Int} {w V : World} (hx : LRow w lo (.slice xa P.length xc) P) (hy : LRow w lo (.slice ya nb yc) B) (hz : LRow w lo (.slice za na zc) A) (hB : B.length = nb) (hA : A.length = na)
    (h1 : ∀ k, (Value.slice xa P.length xc).ownBlock = some k → (Value.slice ya nb yc).ownBlock ≠ some k ∧ (Value.slice za na zc).ownBlock ≠ some k) (h2 : ∀ k, (Value.slice ya nb yc).ownBlock = some k → (Value.slice za na zc).ownBlock ≠ some k) (hoff : Off (fun k => k = g) w V) (hg : g < lo) (hW : W0 ≤ lo) :
    RowsD V W0 ((P, B, A, m, n), 0) [.slice xa P.length xc, .slice ya nb yc, .slice za na zc, .int .i64 m, .int .i64 n, .int .i64 0] := by
  subst hB hA
  have h3 : R3 w lo P B A xa xc ya yc za zc := ⟨hx, hy, hz, h1, h2⟩
  exact ⟨xa, xc, ya, yc, za, zc, rfl, (h3.mv hoff.size fun k hk hk2 => hoff.block k hk2 (by intro e; subst e; omega)).low hW⟩
theorem next_rows {P A : List D_Letter} {xa za : Option Addr} {xc zc : Nat} {w V : World} {lo g W0 : Nat} {m : Int} (hx : LRow w lo (.slice xa P.length xc) P) (hz : LRow w lo (.slice za A.length zc) A) (hd : ∀ k, (Value.slice xa P.length xc).ownBlock = some k → (Value.slice za A.length zc).ownBlock ≠ some k) (hoff : Off (fun k => k = g) w V) (hg : g < lo) (hW : W0 ≤ lo) :
    RowsD V W0 ((P, [], A, 0, m), 0) [.slice xa P.length xc, .slice none 0 0, .slice za A.length zc, .int .i64 0, .int .i64 m, .int .i64 0] := by
  have h3 : R3 w lo P [] A xa xc none 0 za zc := ⟨hx, FRow.none_ _ _ _ _ _, hz, fun k hk => ⟨(fun e => by cases e), hd k hk⟩, (fun k hk => by cases hk)⟩
  exact ⟨xa, xc, none, 0, za, zc, rfl, (h3.mv hoff.size fun k hk hk2 => hoff.block k hk2 (by intro e; subst e; omega)).low hW⟩
end Go.Proofs.YtphklknaagjmpaaDoor.RepC
end
section
namespace Go.Proofs.YtphklknaagjmpaaDoor.RepC
open Go.RowKit RowC ValC SpanC KeptC
set_option linter.unusedVariables false
set_option linter.unusedSimpArgs false
theorem LRow.one {w : World} {lo : Nat} {a : Option Addr} {c : Nat} {L : List D_Letter} (h : LRow w lo (.slice a L.length c) L) (x0 x1 x2 x3 x4 x5 : Int) (hlo : lo ≤ w.heap.size) (hL : L.length + 1 ≤ 2932031007402) :
    ∃ a' c' w', (Builtin.append_ #[23, 23] 23 #[.slice a L.length c, .slice (some ⟨w.heap.size, 0, none⟩) 1 1]).run Tryd.prog (w.alloc (.cells #[.int .i64 x0, .int .i64 x1, .int .i64 x2, .int .i64 x3, .int .i64 x4, .int .i64 x5] 48)) = .ok (.slice a' (L.length + 1) c') w' ∧ LRow w' lo (.slice a' (L.length + 1) c') (L ++ [((x0, x1), (x2, x3), x4, x5)]) ∧ w.heap.size ≤ w'.heap.size ∧
      (∀ k, k < w.heap.size → (Value.slice a L.length c).ownBlock ≠ some k → w'.heap[k]? = w.heap[k]?) ∧ (∀ k, (Value.slice a' (L.length + 1) c').ownBlock = some k → (Value.slice a L.length c).ownBlock = some k ∨ w.heap.size ≤ k) ∧ (∀ C, C ≤ lo → Below C w w') := by
  have hb : Below w.heap.size w (w.alloc (.cells #[.int .i64 x0, .int .i64 x1, .int .i64 x2, .int .i64 x3, .int .i64 x4, .int .i64 x5] 48)) := (Below.refl _ _).alloc (Nat.le_refl _) _
  have hk := Blk.new w 48 #[.int .i64 x0, .int .i64 x1, .int .i64 x2, .int .i64 x3, .int .i64 x4, .int .i64 x5]
  obtain ⟨wa, hwa⟩ : ∃ v, v = w.alloc (.cells #[.int .i64 x0, .int .i64 x1, .int .i64 x2, .int .i64 x3, .int .i64 x4, .int .i64 x5] 48) := ⟨_, rfl⟩
  rw [← hwa] at hb hk ⊢
  clear hwa
  have h1 := h.call hb
  have hsz := hb.size
  have hlt := hk.lt
  cases ho : (Value.slice a L.length c).ownBlock with
  | some g =>
    have hgl := (h.blk g ho).2
    obtain ⟨a', c', w', hr, hrow, hO, hown⟩ := LRow.grow h1 (g := g) (fun k hk => by rw [ho] at hk; cases hk; rfl) (by omega) (rd_one x0 x1 x2 x3 x4 x5 hk) (h.blk g ho).1 (by simp only [List.length_singleton]; omega)
    simp only [List.length_append, List.length_singleton] at hr hrow hown
    refine ⟨a', c', w', hr, hrow, Nat.le_trans hsz hO.1, fun k hk hne => (hO.2.1 k (by omega) (fun e => hne (by rw [e]))).trans (hb.block k hk), fun k hk => ?_, fun C hC => (hb.mono (by omega)).trans (hO.2.2 C (by have := (h.blk g ho).1; omega) (by omega))⟩
    rcases hown k hk with e | e
    · exact .inl (by rw [e])
    · exact .inr (by omega)
  | none =>
    have hbl : ∀ k, (Value.slice a L.length c).ownBlock = some k → k = w.heap.size := fun k hk => by rw [ho] at hk; cases hk
    obtain ⟨a', c', w', hr, hrow, hO, hown⟩ := LRow.grow h1 (g := w.heap.size) hbl (by omega) (rd_one x0 x1 x2 x3 x4 x5 hk) hlo (by simp only [List.length_singleton]; omega)
    simp only [List.length_append, List.length_singleton] at hr hrow hown
    refine ⟨a', c', w', hr, hrow, Nat.le_trans hsz hO.1, fun k hk hne => (hO.2.1 k (by omega) (by omega)).trans (hb.block k hk), fun k hk => ?_, fun C hC => (hb.mono (by omega)).trans (hO.2.2 C (by omega) (by omega))⟩
    rcases hown k hk with e | e
    · exact .inr (by omega)
    · exact .inr (by omega)
theorem let_fin2 {P B A : List D_Letter} {xa ya za : Option Addr} {xc yc zc nb na g lo W0 : Nat} {m n : Int} {w V : World} (hx : LRow w lo (.slice xa P.length xc) P) (hy : LRow w lo (.slice ya nb yc) B) (hz : LRow w lo (.slice za na zc) A) (hB : B.length = nb) (hA : A.length = na)
    (h1 : ∀ k, (Value.slice xa P.length xc).ownBlock = some k → (Value.slice ya nb yc).ownBlock ≠ some k ∧ (Value.slice za na zc).ownBlock ≠ some k) (h2 : ∀ k, (Value.slice ya nb yc).ownBlock = some k → (Value.slice za na zc).ownBlock ≠ some k) (hoff : Off (fun k => k = g) w V) (hg : g < lo) (hW : W0 ≤ lo) :
    R_DeskStep.ow V (Rg W0 V.heap.size) ((P, B, A, m, n), 0) [.slice xa P.length xc, .slice ya nb yc, .slice za na zc, .int .i64 m, .int .i64 n, .int .i64 0] := by
  subst hB hA
  have hs := hoff.size
  refine mkow_DeskStep (T0 := fun k => (Value.slice xa P.length xc).ownBlock = some k) (T1 := fun k => (Value.slice ya B.length yc).ownBlock = some k) (T2 := fun k => (Value.slice za A.length zc).ownBlock = some k) (fun k hk => ?_) (fun k hk => ?_) (fun k hk => ?_) (fun k hk => (h1 k hk).1) (fun k hk => (h1 k hk).2) (fun k hk => h2 k hk)
    (OwSl.keep R_Letter_ok hx.ow fun k hk => hoff.block k (hx.blk k hk).2 fun e => ?_) (OwSl.keep R_Letter_ok hy.ow fun k hk => hoff.block k (hy.blk k hk).2 fun e => ?_) (OwSl.keep R_Letter_ok hz.ow fun k hk => hoff.block k (hz.blk k hk).2 fun e => ?_)
  · have := hx.blk k hk; unfold Rg; omega
  · have := hy.blk k hk; unfold Rg; omega
  · have := hz.blk k hk; unfold Rg; omega
  · have := hx.blk k hk; subst e; omega
  · have := hy.blk k hk; subst e; omega
  · have := hz.blk k hk; subst e; omega
set_option maxRecDepth 100000 in
set_option maxHeartbeats 2000000 in
theorem letdown_spec {P B A : List D_Letter} {pa ba aa : Option Addr} {pc bc ac : Nat} {u n : Int} {f0 f1 t0 t1 z : Int} {W : World} (hlen : P.length ≤ 1048576 ∧ B.length ≤ 1048576 ∧ A.length ≤ 1048576) (hP : RdSl R_Letter W W.heap.size P pa pc) (hB : RdSl R_Letter W W.heap.size B ba bc) (hA : RdSl R_Letter W W.heap.size A aa ac) : Calls Tryd.prog 10 #[.agg #[.slice pa P.length pc, .slice ba B.length bc, .slice aa A.length ac, .int .i64 u, .int .i64 n], .agg #[.int .i64 f0, .int .i64 f1], .agg #[.int .i64 t0, .int .i64 t1], .int .i64 z] W (NewV R_DeskStep (letG (P, B, A, u, n) (f0, f1) (t0, t1) z) W) := by
  obtain ⟨hb0, hd0, hf0, ht0, hr0⟩ := bx4 W #[.slice pa P.length pc, .slice ba B.length bc, .slice aa A.length ac, .int .i64 u, .int .i64 n] #[.int .i64 f0, .int .i64 f1] #[.int .i64 t0, .int .i64 t1] #[.slice none 0 0, .slice none 0 0, .slice none 0 0, .int .i64 0, .int .i64 0, .int .i64 0] 25 27 27 31
  obtain ⟨w0, hw0⟩ : ∃ w, w = (((W.alloc (.cells #[.slice pa P.length pc, .slice ba B.length bc, .slice aa A.length ac, .int .i64 u, .int .i64 n] 25)).alloc (.cells #[.int .i64 f0, .int .i64 f1] 27)).alloc (.cells #[.int .i64 t0, .int .i64 t1] 27)).alloc (.cells #[.slice none 0 0, .slice none 0 0, .slice none 0 0, .int .i64 0, .int .i64 0, .int .i64 0] 31) := ⟨_, rfl⟩
  rw [← hw0] at hb0 hd0 hf0 ht0 hr0
  have HB := Lib.hid hb0
  have HR := Lib.hid hr0
  have HD := Lib.hid hd0
  have HF1 := Lib.hid hf0
  have HT1 := Lib.hid ht0
  have HPw := Lib.hid (gmvS hP hb0)
  have HBw := Lib.hid (gmvS hB hb0)
  have HAw := Lib.hid (gmvS hA hb0)
  have hz0 := hb0.size
  clear hb0 hd0 hf0 ht0 hr0 hP hB hA
  obtain ⟨q1, Q1⟩ := nameB (DeskR P B A u n)
  obtain ⟨q2, Q2⟩ : ∃ b, Hid (isB z 0 1000000 = b) := ⟨_, Lib.hid rfl⟩
  obtain ⟨q3, Q3⟩ := nameB (HasCh P (f0, f1) (t0, t1))
  go_enter Tryd.func10, Tryd.ntmps10
  go_wp2_with fail
  rw [← hw0]
  clear hw0
  refine ((box_spec HPw.out HBw.out HAw.out).mono (fun _ _ => resB_at Q1.out)).mono ?_
  rintro e w1 ⟨rfl, hb⟩
  have HB1 := Lib.hid (HB.out.trans (hb.mono hz0))
  have hz1 := HB1.out.size
  have HR := Lib.hid (HR.out.call hb)
  have HD := Lib.hid (HD.out.call hb)
  have HF1 := Lib.hid (HF1.out.call hb)
  have HT1 := Lib.hid (HT1.out.call hb)
  replace HPw := Lib.hid (gmvS HPw.out hb)
  replace HBw := Lib.hid (gmvS HBw.out hb)
  replace HAw := Lib.hid (gmvS HAw.out hb)
  have d1_0 := HD.out.at_ 0 rfl
  have d1_1 := HD.out.at_ 1 rfl
  have d1_2 := HD.out.at_ 2 rfl
  have d1_3 := HD.out.at_ 3 rfl
  have d1_4 := HD.out.at_ 4 rfl
  have x1_0 := HF1.out.at_ 0 rfl
  have x1_1 := HF1.out.at_ 1 rfl
  have y1_0 := HT1.out.at_ 0 rfl
  have y1_1 := HT1.out.at_ 1 rfl
  have r1_0 := HR.out.at_ 0 rfl
  have r1_1 := HR.out.at_ 1 rfl
  have r1_2 := HR.out.at_ 2 rfl
  have r1_3 := HR.out.at_ 3 rfl
  have r1_4 := HR.out.at_ 4 rfl
  have r1_5 := HR.out.at_ 5 rfl
  have f1_0 := HR.out.soft 0
  have f1_1 := HR.out.soft 1
  have f1_2 := HR.out.soft 2
  have f1_3 := HR.out.soft 3
  have f1_4 := HR.out.soft 4
  have f1_5 := HR.out.soft 5
  clear hb
  cases q1 with
  | false =>
    have HG := Lib.hid (show letG (P, B, A, u, n) (f0, f1) (t0, t1) z = (zeroD, 1) from letG_no (fun h => by have := Q1.out.2 (boxB_iff.1 h.1); cases this))
    go_wp2
    refine bodyPost_ret (v := .agg #[.slice none 0 0, .slice none 0 0, .slice none 0 0, .int .i64 0, .int .i64 0, .int .i64 1]) (by simp [results, Tryd.results10, go_sem, *]) rfl ?_
    rw [HG.out]
    exact ⟨_, rfl, step_ow 1, ((((((HB1.out.setCell (p := ⟨W.heap.size + 1 + 1 + 1, 0, none⟩) (by show W.heap.size ≤ W.heap.size + 1 + 1 + 1; omega) (.slice none 0 0)).setCell (p := ⟨W.heap.size + 1 + 1 + 1, 1, none⟩) (by show W.heap.size ≤ W.heap.size + 1 + 1 + 1; omega) (.slice none 0 0)).setCell (p := ⟨W.heap.size + 1 + 1 + 1, 2, none⟩) (by show W.heap.size ≤ W.heap.size + 1 + 1 + 1; omega) (.slice none 0 0)).setCell (p := ⟨W.heap.size + 1 + 1 + 1, 3, none⟩) (by show W.heap.size ≤ W.heap.size + 1 + 1 + 1; omega) (.int .i64 0)).setCell (p := ⟨W.heap.size + 1 + 1 + 1, 4, none⟩) (by show W.heap.size ≤ W.heap.size + 1 + 1 + 1; omega) (.int .i64 0)).setCell (p := ⟨W.heap.size + 1 + 1 + 1, 5, none⟩) (by show W.heap.size ≤ W.heap.size + 1 + 1 + 1; omega) (.int .i64 1))⟩
  | true =>
    go_wp2_with fail
    refine (is_at z 0 1000000 Q2.out _).mono ?_
    rintro e w2 ⟨rfl, hb⟩
    have HB2 := Lib.hid (HB1.out.trans (hb.mono hz1))
    have hz2 := HB2.out.size
    have HR := Lib.hid (HR.out.call hb)
    have HD := Lib.hid (HD.out.call hb)
    have HF1 := Lib.hid (HF1.out.call hb)
    have HT1 := Lib.hid (HT1.out.call hb)
    replace HPw := Lib.hid (gmvS HPw.out hb)
    replace HBw := Lib.hid (gmvS HBw.out hb)
    replace HAw := Lib.hid (gmvS HAw.out hb)
    have d2_0 := HD.out.at_ 0 rfl
    have d2_1 := HD.out.at_ 1 rfl
    have d2_2 := HD.out.at_ 2 rfl
    have d2_3 := HD.out.at_ 3 rfl
    have d2_4 := HD.out.at_ 4 rfl
    have x2_0 := HF1.out.at_ 0 rfl
    have x2_1 := HF1.out.at_ 1 rfl
    have y2_0 := HT1.out.at_ 0 rfl
    have y2_1 := HT1.out.at_ 1 rfl
    have r2_0 := HR.out.at_ 0 rfl
    have r2_1 := HR.out.at_ 1 rfl
    have r2_2 := HR.out.at_ 2 rfl
    have r2_3 := HR.out.at_ 3 rfl
    have r2_4 := HR.out.at_ 4 rfl
    have r2_5 := HR.out.at_ 5 rfl
    have f2_0 := HR.out.soft 0
    have f2_1 := HR.out.soft 1
    have f2_2 := HR.out.soft 2
    have f2_3 := HR.out.soft 3
    have f2_4 := HR.out.soft 4
    have f2_5 := HR.out.soft 5
    clear hb
    cases q2 with
    | false =>
      have HG := Lib.hid (show letG (P, B, A, u, n) (f0, f1) (t0, t1) z = (zeroD, 1) from letG_no (fun h => by have h2 := h.2; rw [Q2.out] at h2; cases h2))
      go_wp2
      refine bodyPost_ret (v := .agg #[.slice none 0 0, .slice none 0 0, .slice none 0 0, .int .i64 0, .int .i64 0, .int .i64 1]) (by simp [results, Tryd.results10, go_sem, *]) rfl ?_
      rw [HG.out]
      exact ⟨_, rfl, step_ow 1, ((((((HB2.out.setCell (p := ⟨W.heap.size + 1 + 1 + 1, 0, none⟩) (by show W.heap.size ≤ W.heap.size + 1 + 1 + 1; omega) (.slice none 0 0)).setCell (p := ⟨W.heap.size + 1 + 1 + 1, 1, none⟩) (by show W.heap.size ≤ W.heap.size + 1 + 1 + 1; omega) (.slice none 0 0)).setCell (p := ⟨W.heap.size + 1 + 1 + 1, 2, none⟩) (by show W.heap.size ≤ W.heap.size + 1 + 1 + 1; omega) (.slice none 0 0)).setCell (p := ⟨W.heap.size + 1 + 1 + 1, 3, none⟩) (by show W.heap.size ≤ W.heap.size + 1 + 1 + 1; omega) (.int .i64 0)).setCell (p := ⟨W.heap.size + 1 + 1 + 1, 4, none⟩) (by show W.heap.size ≤ W.heap.size + 1 + 1 + 1; omega) (.int .i64 0)).setCell (p := ⟨W.heap.size + 1 + 1 + 1, 5, none⟩) (by show W.heap.size ≤ W.heap.size + 1 + 1 + 1; omega) (.int .i64 1))⟩
    | true =>
      have HY := Lib.hid (Q1.out.1 (by first | rfl | trivial))
      have hYP : boxB (P, B, A, u, n) = true ∧ isB z 0 1000000 = true := ⟨boxB_iff.2 HY.out, Q2.out⟩
      have HYP := Lib.hid hYP
      clear hYP
      have hB6 : B.length ≤ 6 := by have := HY.out.2.2.1.1; omega
      have hA20 : A.length ≤ 20 := by have := HY.out.2.2.2.1.1; omega
      have hur := HY.out.2.2.2.2.1
      simp only [isB, Bool.and_eq_true, decide_eq_true_iff] at hur
      go_wp2_with fail
      refine (pair_at HPw.out Q3.out).mono ?_
      rintro e w3 ⟨rfl, hb⟩
      have HB3 := Lib.hid (HB2.out.trans (hb.mono hz2))
      have hz3 := HB3.out.size
      have HR := Lib.hid (HR.out.call hb)
      have HD := Lib.hid (HD.out.call hb)
      have HF1 := Lib.hid (HF1.out.call hb)
      have HT1 := Lib.hid (HT1.out.call hb)
      replace HPw := Lib.hid (gmvS HPw.out hb)
      replace HBw := Lib.hid (gmvS HBw.out hb)
      replace HAw := Lib.hid (gmvS HAw.out hb)
      have d3_0 := HD.out.at_ 0 rfl
      have d3_1 := HD.out.at_ 1 rfl
      have d3_2 := HD.out.at_ 2 rfl
      have d3_3 := HD.out.at_ 3 rfl
      have d3_4 := HD.out.at_ 4 rfl
      have x3_0 := HF1.out.at_ 0 rfl
      have x3_1 := HF1.out.at_ 1 rfl
      have y3_0 := HT1.out.at_ 0 rfl
      have y3_1 := HT1.out.at_ 1 rfl
      have r3_0 := HR.out.at_ 0 rfl
      have r3_1 := HR.out.at_ 1 rfl
      have r3_2 := HR.out.at_ 2 rfl
      have r3_3 := HR.out.at_ 3 rfl
      have r3_4 := HR.out.at_ 4 rfl
      have r3_5 := HR.out.at_ 5 rfl
      have f3_0 := HR.out.soft 0
      have f3_1 := HR.out.soft 1
      have f3_2 := HR.out.soft 2
      have f3_3 := HR.out.soft 3
      have f3_4 := HR.out.soft 4
      have f3_5 := HR.out.soft 5
      clear hb
      cases q3 with
      | false =>
        have HG := Lib.hid (show letG (P, B, A, u, n) (f0, f1) (t0, t1) z = (zeroD, 11) from letG_label HYP.out (fun h => by have := Q3.out.2 h; cases this))
        go_wp2
        refine bodyPost_ret (v := .agg #[.slice none 0 0, .slice none 0 0, .slice none 0 0, .int .i64 0, .int .i64 0, .int .i64 11]) (by simp [results, Tryd.results10, go_sem, *]) rfl ?_
        rw [HG.out]
        exact ⟨_, rfl, step_ow 11, ((((((HB3.out.setCell (p := ⟨W.heap.size + 1 + 1 + 1, 0, none⟩) (by show W.heap.size ≤ W.heap.size + 1 + 1 + 1; omega) (.slice none 0 0)).setCell (p := ⟨W.heap.size + 1 + 1 + 1, 1, none⟩) (by show W.heap.size ≤ W.heap.size + 1 + 1 + 1; omega) (.slice none 0 0)).setCell (p := ⟨W.heap.size + 1 + 1 + 1, 2, none⟩) (by show W.heap.size ≤ W.heap.size + 1 + 1 + 1; omega) (.slice none 0 0)).setCell (p := ⟨W.heap.size + 1 + 1 + 1, 3, none⟩) (by show W.heap.size ≤ W.heap.size + 1 + 1 + 1; omega) (.int .i64 0)).setCell (p := ⟨W.heap.size + 1 + 1 + 1, 4, none⟩) (by show W.heap.size ≤ W.heap.size + 1 + 1 + 1; omega) (.int .i64 0)).setCell (p := ⟨W.heap.size + 1 + 1 + 1, 5, none⟩) (by show W.heap.size ≤ W.heap.size + 1 + 1 + 1; omega) (.int .i64 11))⟩
      | true =>
        have HC := Lib.hid (Q3.out.1 (by first | rfl | trivial))
        by_cases hu : u = 2
        · have hbe : decide (u ≥ 2) = true := decide_eq_true (by omega)
          have HU := Lib.hid hu
          clear hu
          have HG := Lib.hid (show letG (P, B, A, u, n) (f0, f1) (t0, t1) z = (zeroD, 8) from letG_range HYP.out HC.out HU.out)
          go_wp2
          refine bodyPost_ret (v := .agg #[.slice none 0 0, .slice none 0 0, .slice none 0 0, .int .i64 0, .int .i64 0, .int .i64 8]) (by simp [results, Tryd.results10, go_sem, *]) rfl ?_
          rw [HG.out]
          exact ⟨_, rfl, step_ow 8, ((((((HB3.out.setCell (p := ⟨W.heap.size + 1 + 1 + 1, 0, none⟩) (by show W.heap.size ≤ W.heap.size + 1 + 1 + 1; omega) (.slice none 0 0)).setCell (p := ⟨W.heap.size + 1 + 1 + 1, 1, none⟩) (by show W.heap.size ≤ W.heap.size + 1 + 1 + 1; omega) (.slice none 0 0)).setCell (p := ⟨W.heap.size + 1 + 1 + 1, 2, none⟩) (by show W.heap.size ≤ W.heap.size + 1 + 1 + 1; omega) (.slice none 0 0)).setCell (p := ⟨W.heap.size + 1 + 1 + 1, 3, none⟩) (by show W.heap.size ≤ W.heap.size + 1 + 1 + 1; omega) (.int .i64 0)).setCell (p := ⟨W.heap.size + 1 + 1 + 1, 4, none⟩) (by show W.heap.size ≤ W.heap.size + 1 + 1 + 1; omega) (.int .i64 0)).setCell (p := ⟨W.heap.size + 1 + 1 + 1, 5, none⟩) (by show W.heap.size ≤ W.heap.size + 1 + 1 + 1; omega) (.int .i64 8))⟩
        have hbe : decide (u ≥ 2) = false := decide_eq_false (by omega)
        have HU := Lib.hid hu
        clear hu
        by_cases h6 : B.length = 6
        · have hb6 : decide ((B.length : Int) ≥ 6) = true := decide_eq_true (by omega)
          have H6 := Lib.hid h6
          clear h6
          have HG := Lib.hid (show letG (P, B, A, u, n) (f0, f1) (t0, t1) z = (zeroD, 9) from letG_full HYP.out HC.out HU.out (.inl H6.out))
          go_wp2
          refine bodyPost_ret (v := .agg #[.slice none 0 0, .slice none 0 0, .slice none 0 0, .int .i64 0, .int .i64 0, .int .i64 9]) (by simp [results, Tryd.results10, go_sem, *]) rfl ?_
          rw [HG.out]
          exact ⟨_, rfl, step_ow 9, ((((((HB3.out.setCell (p := ⟨W.heap.size + 1 + 1 + 1, 0, none⟩) (by show W.heap.size ≤ W.heap.size + 1 + 1 + 1; omega) (.slice none 0 0)).setCell (p := ⟨W.heap.size + 1 + 1 + 1, 1, none⟩) (by show W.heap.size ≤ W.heap.size + 1 + 1 + 1; omega) (.slice none 0 0)).setCell (p := ⟨W.heap.size + 1 + 1 + 1, 2, none⟩) (by show W.heap.size ≤ W.heap.size + 1 + 1 + 1; omega) (.slice none 0 0)).setCell (p := ⟨W.heap.size + 1 + 1 + 1, 3, none⟩) (by show W.heap.size ≤ W.heap.size + 1 + 1 + 1; omega) (.int .i64 0)).setCell (p := ⟨W.heap.size + 1 + 1 + 1, 4, none⟩) (by show W.heap.size ≤ W.heap.size + 1 + 1 + 1; omega) (.int .i64 0)).setCell (p := ⟨W.heap.size + 1 + 1 + 1, 5, none⟩) (by show W.heap.size ≤ W.heap.size + 1 + 1 + 1; omega) (.int .i64 9))⟩
        have hb6 : decide ((B.length : Int) ≥ 6) = false := decide_eq_false (by omega)
        by_cases h20 : A.length = 20
        · have hb20 : decide ((A.length : Int) ≥ 20) = true := decide_eq_true (by omega)
          have H20 := Lib.hid h20
          clear h20
          have HG := Lib.hid (show letG (P, B, A, u, n) (f0, f1) (t0, t1) z = (zeroD, 9) from letG_full HYP.out HC.out HU.out (.inr H20.out))
          go_wp2
          refine bodyPost_ret (v := .agg #[.slice none 0 0, .slice none 0 0, .slice none 0 0, .int .i64 0, .int .i64 0, .int .i64 9]) (by simp [results, Tryd.results10, go_sem, *]) rfl ?_
          rw [HG.out]
          exact ⟨_, rfl, step_ow 9, ((((((HB3.out.setCell (p := ⟨W.heap.size + 1 + 1 + 1, 0, none⟩) (by show W.heap.size ≤ W.heap.size + 1 + 1 + 1; omega) (.slice none 0 0)).setCell (p := ⟨W.heap.size + 1 + 1 + 1, 1, none⟩) (by show W.heap.size ≤ W.heap.size + 1 + 1 + 1; omega) (.slice none 0 0)).setCell (p := ⟨W.heap.size + 1 + 1 + 1, 2, none⟩) (by show W.heap.size ≤ W.heap.size + 1 + 1 + 1; omega) (.slice none 0 0)).setCell (p := ⟨W.heap.size + 1 + 1 + 1, 3, none⟩) (by show W.heap.size ≤ W.heap.size + 1 + 1 + 1; omega) (.int .i64 0)).setCell (p := ⟨W.heap.size + 1 + 1 + 1, 4, none⟩) (by show W.heap.size ≤ W.heap.size + 1 + 1 + 1; omega) (.int .i64 0)).setCell (p := ⟨W.heap.size + 1 + 1 + 1, 5, none⟩) (by show W.heap.size ≤ W.heap.size + 1 + 1 + 1; omega) (.int .i64 9))⟩
        have hb20 : decide ((A.length : Int) ≥ 20) = false := decide_eq_false (by omega)
        have HG := Lib.hid (show letG (P, B, A, u, n) (f0, f1) (t0, t1) z = ((P, B ++ [((f0, f1), (t0, t1), n, z)], A ++ [((f0, f1), (t0, t1), n, z)], u + 1, n), 0) from letG_ok HYP.out HC.out HU.out h6 h20)
        have hwr : IntKind.i64.wrap (u + 1) = u + 1 := IntWalk.i64_in _ (by omega)
        clear h6 h20
        have HRL := Lib.hid HR.out.lt
        go_wp2_with fail
        refine (copy_spec ⟨by omega, by omega, by omega⟩ HPw.out HBw.out HAw.out).mono ?_
        intro e w4 h
        obtain ⟨xa, xc, ya, yc, za, zc, rfl, hx, hy, hz, hd1, hd2, hb⟩ := copyR_elim h
        have HX := Lib.hid hx
        have HYR := Lib.hid hy
        have HZ := Lib.hid hz
        have HD1 := Lib.hid hd1
        have HD2 := Lib.hid hd2
        have hs34 := hb.size
        clear h hx hy hz hd1 hd2
        have HB4 := Lib.hid (HB3.out.trans (hb.mono hz3))
        have hz4 := HB4.out.size
        have HR := Lib.hid (HR.out.call hb)
        have HD := Lib.hid (HD.out.call hb)
        have HF1 := Lib.hid (HF1.out.call hb)
        have HT1 := Lib.hid (HT1.out.call hb)
        replace HPw := Lib.hid (gmvS HPw.out hb)
        replace HBw := Lib.hid (gmvS HBw.out hb)
        replace HAw := Lib.hid (gmvS HAw.out hb)
        have d4_0 := HD.out.at_ 0 rfl
        have d4_1 := HD.out.at_ 1 rfl
        have d4_2 := HD.out.at_ 2 rfl
        have d4_3 := HD.out.at_ 3 rfl
        have d4_4 := HD.out.at_ 4 rfl
        have x4_0 := HF1.out.at_ 0 rfl
        have x4_1 := HF1.out.at_ 1 rfl
        have y4_0 := HT1.out.at_ 0 rfl
        have y4_1 := HT1.out.at_ 1 rfl
        have r4_0 := HR.out.at_ 0 rfl
        have r4_1 := HR.out.at_ 1 rfl
        have r4_2 := HR.out.at_ 2 rfl
        have r4_3 := HR.out.at_ 3 rfl
        have r4_4 := HR.out.at_ 4 rfl
        have r4_5 := HR.out.at_ 5 rfl
        have f4_0 := HR.out.soft 0
        have f4_1 := HR.out.soft 1
        have f4_2 := HR.out.soft 2
        have f4_3 := HR.out.soft 3
        have f4_4 := HR.out.soft 4
        have f4_5 := HR.out.soft 5
        clear hb
        have hbo : Below w4.heap.size w4 ((w4.alloc (.cells #[.slice xa P.length xc, .slice ya B.length yc, .slice za A.length zc, .int .i64 u, .int .i64 n] 25)).alloc (.cells #[.int .i64 f0, .int .i64 f1, .int .i64 t0, .int .i64 t1, .int .i64 n, .int .i64 z] 48)) := ((Below.refl _ _).alloc (Nat.le_refl _) _).alloc (by simp) _
        obtain ⟨_, ho, hxl⟩ := bx2 w4 #[.slice xa P.length xc, .slice ya B.length yc, .slice za A.length zc, .int .i64 u, .int .i64 n] #[.int .i64 f0, .int .i64 f1, .int .i64 t0, .int .i64 t1, .int .i64 n, .int .i64 z] 25 48
        obtain ⟨wx, hwx⟩ : ∃ w, w = (w4.alloc (.cells #[.slice xa P.length xc, .slice ya B.length yc, .slice za A.length zc, .int .i64 u, .int .i64 n] 25)).alloc (.cells #[.int .i64 f0, .int .i64 f1, .int .i64 t0, .int .i64 t1, .int .i64 n, .int .i64 z] 48) := ⟨_, rfl⟩
        have hsx : wx.heap.size = w4.heap.size + 2 := by rw [hwx]; simp
        rw [← hwx] at hbo ho hxl
        have hX := HX.out.call hbo
        have hY := HYR.out.call hbo
        have hZ := HZ.out.call hbo
        obtain ⟨ya', yc', w5, hr5, hY5, hs5, hk5, ho5, hb5⟩ := LRow.one hY f0 f1 t0 t1 n z (by omega) (by omega)
        have hRk : W.heap.size + 1 + 1 + 1 < w4.heap.size := Nat.lt_of_lt_of_le HRL.out hs34
        have hlo3 : ∀ k, (Value.slice ya B.length yc).ownBlock = some k → w3.heap.size ≤ k ∧ k < w4.heap.size := fun k hk => HYR.out.blk k hk
        have hloz : ∀ k, (Value.slice za A.length zc).ownBlock = some k → w3.heap.size ≤ k ∧ k < w4.heap.size := fun k hk => HZ.out.blk k hk
        have hlox : ∀ k, (Value.slice xa P.length xc).ownBlock = some k → w3.heap.size ≤ k ∧ k < w4.heap.size := fun k hk => HX.out.blk k hk
        have ho5' : Blk w5 w4.heap.size 25 #[.slice xa P.length xc, .slice ya B.length yc, .slice za A.length zc, .int .i64 u, .int .i64 n] := (hk5 _ (by omega) (fun e => by have := hlo3 _ e; omega)).trans ho
        have hx5 : Blk w5 (w4.heap.size + 1) 48 #[.int .i64 f0, .int .i64 f1, .int .i64 t0, .int .i64 t1, .int .i64 n, .int .i64 z] := (hk5 _ (by omega) (fun e => by have := hlo3 _ e; omega)).trans hxl
        have hR5 : Blk w5 (W.heap.size + 1 + 1 + 1) 31 #[.slice none 0 0, .slice none 0 0, .slice none 0 0, .int .i64 0, .int .i64 0, .int .i64 0] := (hk5 _ (by omega) (fun e => by have := hlo3 _ e; have := HRL.out; omega)).trans (HR.out.call hbo)
        have hD5 : Blk w5 W.heap.size 25 #[.slice pa P.length pc, .slice ba B.length bc, .slice aa A.length ac, .int .i64 u, .int .i64 n] := (hk5 _ (by omega) (fun e => by have := hlo3 _ e; have := HRL.out; omega)).trans (HD.out.call hbo)
        have hX5 : LRow w5 w3.heap.size (.slice xa P.length xc) P := FRow.mv hX hs5 fun k hk => hk5 k (by have := hlox k hk; omega) (fun e => (HD1.out k hk).1 e)
        have hZ5 : LRow w5 w3.heap.size (.slice za A.length zc) A := FRow.mv hZ hs5 fun k hk => hk5 k (by have := hloz k hk; omega) (fun e => HD2.out k e hk)
        obtain ⟨w6, hw6⟩ : ∃ w, w = w5.setCell ⟨w4.heap.size, 1, none⟩ (.slice ya' (B.length + 1) yc') := ⟨_, rfl⟩
        have hoff6 : Off (fun k => k = w4.heap.size) w5 w6 := by rw [hw6]; exact (Off.refl (fun k => k = w4.heap.size) w5).setCell (p := ⟨w4.heap.size, 1, none⟩) rfl _
        have ho6 : Blk w6 w4.heap.size 25 #[.slice xa P.length xc, .slice ya' (B.length + 1) yc', .slice za A.length zc, .int .i64 u, .int .i64 n] := by rw [hw6]; exact (ho5'.set 1 _).as rfl
        have hO6 := But2.off hoff6
        have hx6 := hO6.blk hx5 (by omega)
        have hR6 := hO6.blk hR5 (by omega)
        have hD6 := hO6.blk hD5 (by omega)
        have hX6 := LRow.mv2 hX5 hO6 (fun k hk => by have := hlox k hk; omega)
        have hZ6 := LRow.mv2 hZ5 hO6 (fun k hk => by have := hloz k hk; omega)
        have hY6 := LRow.mv2 hY5 hO6 (fun k hk => by rcases ho5 k hk with e | e; (have := hlo3 k e; omega); omega)
        have hs6 := hO6.1
        obtain ⟨za', zc', w7, hr7, hZ7, hs7, hk7, ho7, hb7⟩ := LRow.one hZ6 f0 f1 t0 t1 n z (by omega) (by omega)
        have ho7' : Blk w7 w4.heap.size 25 #[.slice xa P.length xc, .slice ya' (B.length + 1) yc', .slice za A.length zc, .int .i64 u, .int .i64 n] := (hk7 _ ho6.lt (fun e => by have := hloz _ e; omega)).trans ho6
        have hx7 : Blk w7 (w4.heap.size + 1) 48 #[.int .i64 f0, .int .i64 f1, .int .i64 t0, .int .i64 t1, .int .i64 n, .int .i64 z] := (hk7 _ hx6.lt (fun e => by have := hloz _ e; omega)).trans hx6
        have hR7 : Blk w7 (W.heap.size + 1 + 1 + 1) 31 #[.slice none 0 0, .slice none 0 0, .slice none 0 0, .int .i64 0, .int .i64 0, .int .i64 0] := (hk7 _ hR6.lt (fun e => by have := hloz _ e; have := HRL.out; omega)).trans hR6
        have hD7 : Blk w7 W.heap.size 25 #[.slice pa P.length pc, .slice ba B.length bc, .slice aa A.length ac, .int .i64 u, .int .i64 n] := (hk7 _ hD6.lt (fun e => by have := hloz _ e; have := HRL.out; omega)).trans hD6
        have hX7 : LRow w7 w3.heap.size (.slice xa P.length xc) P := FRow.mv hX6 hs7 fun k hk => hk7 k (hX6.blk k hk).2 (fun e => (HD1.out k hk).2 e)
        have hY7 : LRow w7 w3.heap.size (.slice ya' (B.length + 1) yc') (B ++ [((f0, f1), (t0, t1), n, z)]) := FRow.mv hY6 hs7 fun k hk => hk7 k (hY6.blk k hk).2 (fun e => by rcases ho5 k hk with e2 | e2; exact HD2.out k e2 e; (have := hloz k e; omega))
        obtain ⟨w8, hw8⟩ : ∃ w, w = w7.setCell ⟨w4.heap.size, 2, none⟩ (.slice za' (A.length + 1) zc') := ⟨_, rfl⟩
        obtain ⟨w9, hw9⟩ : ∃ w, w = w8.setCell ⟨w4.heap.size, 3, none⟩ (.int .i64 (u + 1)) := ⟨_, rfl⟩
        have ho8 : Blk w8 w4.heap.size 25 #[.slice xa P.length xc, .slice ya' (B.length + 1) yc', .slice za' (A.length + 1) zc', .int .i64 u, .int .i64 n] := by rw [hw8]; exact (ho7'.set 2 _).as rfl
        have ho9 : Blk w9 w4.heap.size 25 #[.slice xa P.length xc, .slice ya' (B.length + 1) yc', .slice za' (A.length + 1) zc', .int .i64 (u + 1), .int .i64 n] := by rw [hw9]; exact (ho8.set 3 _).as rfl
        have hO8 : But2 w7 w8 w4.heap.size := by rw [hw8]; exact But2.off ((Off.refl (fun k => k = w4.heap.size) w7).setCell (p := ⟨w4.heap.size, 2, none⟩) rfl _)
        have hO9 : But2 w8 w9 w4.heap.size := by rw [hw9]; exact But2.off ((Off.refl (fun k => k = w4.heap.size) w8).setCell (p := ⟨w4.heap.size, 3, none⟩) rfl _)
        have hO79 := hO8.trans hO9
        have hR9 := hO79.blk hR7 (by omega)
        have hD8 := hO8.blk hD7 (by omega)
        have hD9 := hO79.blk hD7 (by omega)
        have hX9 := Lib.hid (LRow.mv2 hX7 hO79 (fun k hk => by have := hlox k hk; omega))
        have hY9 := Lib.hid (LRow.mv2 hY7 hO79 (fun k hk => by rcases ho5 k hk with e | e; (have := hlo3 k e; omega); omega))
        have hZ9 := Lib.hid (LRow.mv2 hZ7 hO79 (fun k hk => by rcases ho7 k hk with e | e; (have := hloz k e; omega); omega))
        have HB9 := Lib.hid (show Below W.heap.size W w9 from (HB4.out.trans (hbo.mono HB4.out.size)).trans (((hb5 W.heap.size (by omega)).trans (hO6.2.2 W.heap.size (by omega) (by omega))).trans ((hb7 W.heap.size (by omega)).trans (hO79.2.2 W.heap.size (by omega) (by have := hs7; omega)))))
        have HE1 := Lib.hid (show ∀ k, (Value.slice xa P.length xc).ownBlock = some k → (Value.slice ya' (B.length + 1) yc').ownBlock ≠ some k ∧ (Value.slice za' (A.length + 1) zc').ownBlock ≠ some k from fun k hk => ⟨fun e => by rcases ho5 k e with e2 | e2; exact (HD1.out k hk).1 e2; (have := hlox k hk; omega), fun e => by rcases ho7 k e with e2 | e2; exact (HD1.out k hk).2 e2; (have := hlox k hk; omega)⟩)
        have HE2 := Lib.hid (show ∀ k, (Value.slice ya' (B.length + 1) yc').ownBlock = some k → (Value.slice za' (A.length + 1) zc').ownBlock ≠ some k from fun k hk e => by rcases ho7 k e with e2 | e2; (rcases ho5 k hk with e3 | e3; exact HD2.out k e3 e2; (have := hloz k e2; omega)); (have := (hY6.blk k hk).2; omega))
        have m5_0 := ho5'.at_ 0 rfl
        have m5_1 := ho5'.at_ 1 rfl
        have m5_2 := ho5'.at_ 2 rfl
        have m5_3 := ho5'.at_ 3 rfl
        have m5_4 := ho5'.at_ 4 rfl
        have m6_0 := ho6.at_ 0 rfl
        have m6_1 := ho6.at_ 1 rfl
        have m6_2 := ho6.at_ 2 rfl
        have m6_3 := ho6.at_ 3 rfl
        have m6_4 := ho6.at_ 4 rfl
        have m7_0 := ho7'.at_ 0 rfl
        have m7_1 := ho7'.at_ 1 rfl
        have m7_2 := ho7'.at_ 2 rfl
        have m7_3 := ho7'.at_ 3 rfl
        have m7_4 := ho7'.at_ 4 rfl
        have m8_0 := ho8.at_ 0 rfl
        have m8_1 := ho8.at_ 1 rfl
        have m8_2 := ho8.at_ 2 rfl
        have m8_3 := ho8.at_ 3 rfl
        have m8_4 := ho8.at_ 4 rfl
        have m9_0 := ho9.at_ 0 rfl
        have m9_1 := ho9.at_ 1 rfl
        have m9_2 := ho9.at_ 2 rfl
        have m9_3 := ho9.at_ 3 rfl
        have m9_4 := ho9.at_ 4 rfl
        have s5_0 := ho5'.soft 0
        have s5_1 := ho5'.soft 1
        have s5_2 := ho5'.soft 2
        have s5_3 := ho5'.soft 3
        have s5_4 := ho5'.soft 4
        have s7_0 := ho7'.soft 0
        have s7_1 := ho7'.soft 1
        have s7_2 := ho7'.soft 2
        have s7_3 := ho7'.soft 3
        have s7_4 := ho7'.soft 4
        have s8_0 := ho8.soft 0
        have s8_1 := ho8.soft 1
        have s8_2 := ho8.soft 2
        have s8_3 := ho8.soft 3
        have s8_4 := ho8.soft 4
        have l6_0 := hx6.at_ 0 rfl
        have l6_1 := hx6.at_ 1 rfl
        have l6_2 := hx6.at_ 2 rfl
        have l6_3 := hx6.at_ 3 rfl
        have l6_4 := hx6.at_ 4 rfl
        have l6_5 := hx6.at_ 5 rfl
        have p8_0 := hD8.at_ 0 rfl
        have p8_1 := hD8.at_ 1 rfl
        have p8_2 := hD8.at_ 2 rfl
        have p8_3 := hD8.at_ 3 rfl
        have p8_4 := hD8.at_ 4 rfl
        have r9_0 := hR9.at_ 0 rfl
        have r9_1 := hR9.at_ 1 rfl
        have r9_2 := hR9.at_ 2 rfl
        have r9_3 := hR9.at_ 3 rfl
        have r9_4 := hR9.at_ 4 rfl
        have r9_5 := hR9.at_ 5 rfl
        have g9_0 := hR9.soft 0
        have g9_1 := hR9.soft 1
        have g9_2 := hR9.soft 2
        have g9_3 := hR9.soft 3
        have g9_4 := hR9.soft 4
        have g9_5 := hR9.soft 5
        rw [hwx] at hr5
        simp only [World.size_alloc] at hr5
        have e6 : w6.heap.size = w5.heap.size := by rw [hw6]; simp [World.setCell]
        rw [e6] at hr7
        rw [hw6] at hr7 m6_0 m6_1 m6_2 m6_3 m6_4 l6_0 l6_1 l6_2 l6_3 l6_4 l6_5
        have HW8 := Lib.hid hw8
        have HW9 := Lib.hid hw9
        rw [hw9] at m9_0 m9_1 m9_2 m9_3 m9_4 r9_0 r9_1 r9_2 r9_3 r9_4 r9_5 g9_0 g9_1 g9_2 g9_3 g9_4 g9_5
        rw [hw8] at m8_0 m8_1 m8_2 m8_3 m8_4 s8_0 s8_1 s8_2 s8_3 s8_4 p8_0 p8_1 p8_2 p8_3 p8_4 m9_0 m9_1 m9_2 m9_3 m9_4 r9_0 r9_1 r9_2 r9_3 r9_4 r9_5 g9_0 g9_1 g9_2 g9_3 g9_4 g9_5
        have HR5 := Lib.hid hr5
        have HR7 := Lib.hid hr7
        clear hbo ho hxl hX hY hZ hr5 hY5 hk5 ho5 hb5 hlo3 hloz hlox ho5' hx5 hR5 hD5 hX5 hZ5 hoff6 ho6 hO6 hx6 hR6 hD6 hX6 hZ6 hY6 hr7 hZ7 hk7 ho7 hb7 ho7' hx7 hR7 hD7 hX7 hY7 ho8 ho9 hO8 hO9 hO79 hR9 hD8 hD9 hw6 hw8 hw9 hwx e6 hsx
        have hbA : Below w4.heap.size w4 (w4.alloc (.cells #[.slice xa P.length xc, .slice ya B.length yc, .slice za A.length zc, .int .i64 u, .int .i64 n] 25)) := (Below.refl _ _).alloc (Nat.le_refl _) _
        have a1_0 := (HF1.out.call hbA).at_ 0 rfl
        have a1_1 := (HF1.out.call hbA).at_ 1 rfl
        have a2_0 := (HT1.out.call hbA).at_ 0 rfl
        have a2_1 := (HT1.out.call hbA).at_ 1 rfl
        have a3_0 := (HD.out.call hbA).at_ 0 rfl
        have a3_1 := (HD.out.call hbA).at_ 1 rfl
        have a3_2 := (HD.out.call hbA).at_ 2 rfl
        have a3_3 := (HD.out.call hbA).at_ 3 rfl
        have a3_4 := (HD.out.call hbA).at_ 4 rfl
        clear hbA
        go_wp2_with (at_builtin; first | refine wpList_app rfl (.tmp 54) (.tmp 56) 23 rfl rfl rfl HR5.out ?_ | refine wpList_app rfl (.tmp 60) (.tmp 62) 23 rfl rfl rfl HR7.out ?_)
        refine bodyPost_ret (v := .agg #[.slice xa P.length xc, .slice ya' (B.length + 1) yc', .slice za' (A.length + 1) zc', .int .i64 (u + 1), .int .i64 n, .int .i64 0]) (by simp [results, Tryd.results10, go_sem, *]) rfl ?_
        rw [HG.out, ← HW8.out, ← HW9.out]
        have hoff := (((((((Off.refl (fun x => x = W.heap.size + 1 + 1 + 1) w9).setCell (p := ⟨W.heap.size + 1 + 1 + 1, 0, none⟩) (rfl) (.slice xa P.length xc)).setCell (p := ⟨W.heap.size + 1 + 1 + 1, 1, none⟩) (rfl) (.slice ya' (B.length + 1) yc')).setCell (p := ⟨W.heap.size + 1 + 1 + 1, 2, none⟩) (rfl) (.slice za' (A.length + 1) zc')).setCell (p := ⟨W.heap.size + 1 + 1 + 1, 3, none⟩) (rfl) (.int .i64 (u + 1))).setCell (p := ⟨W.heap.size + 1 + 1 + 1, 4, none⟩) (rfl) (.int .i64 n)).setCell (p := ⟨W.heap.size + 1 + 1 + 1, 5, none⟩) (rfl) (.int .i64 0))
        exact ⟨_, rfl, let_fin2 hX9.out hY9.out hZ9.out (by simp) (by simp) HE1.out HE2.out hoff HRL.out hz3, ((((((HB9.out.setCell (p := ⟨W.heap.size + 1 + 1 + 1, 0, none⟩) (by show W.heap.size ≤ W.heap.size + 1 + 1 + 1; omega) (.slice xa P.length xc)).setCell (p := ⟨W.heap.size + 1 + 1 + 1, 1, none⟩) (by show W.heap.size ≤ W.heap.size + 1 + 1 + 1; omega) (.slice ya' (B.length + 1) yc')).setCell (p := ⟨W.heap.size + 1 + 1 + 1, 2, none⟩) (by show W.heap.size ≤ W.heap.size + 1 + 1 + 1; omega) (.slice za' (A.length + 1) zc')).setCell (p := ⟨W.heap.size + 1 + 1 + 1, 3, none⟩) (by show W.heap.size ≤ W.heap.size + 1 + 1 + 1; omega) (.int .i64 (u + 1))).setCell (p := ⟨W.heap.size + 1 + 1 + 1, 4, none⟩) (by show W.heap.size ≤ W.heap.size + 1 + 1 + 1; omega) (.int .i64 n)).setCell (p := ⟨W.heap.size + 1 + 1 + 1, 5, none⟩) (by show W.heap.size ≤ W.heap.size + 1 + 1 + 1; omega) (.int .i64 0))⟩
end Go.Proofs.YtphklknaagjmpaaDoor.RepC
end
