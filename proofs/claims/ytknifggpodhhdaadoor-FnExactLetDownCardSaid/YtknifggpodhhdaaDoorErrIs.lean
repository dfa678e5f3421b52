/- errors.Is at a sentinel of errors.New's make: Go's own text walked; closed facts on the model's entries at this program's numbers. After the kit's worked toy 'sentry'. -/
import Derived.Test.YtknifggpodhhdaaDoorChecked
import Derived.WalkKit
import Derived.Below
import Derived.LaidEql
import Derived.Stop.Asserts
import Derived.RowKitTokens
import Derived.Lib.Hide
namespace Go.Proofs.YtknifggpodhhdaaDoor.IsC
open Go.RowKit Go.Extern.Stop Go.Stop Go.Extern

def cmpF : TypeId → Sem Value := fun t => do Go.Extern.Rtype.noPackHeld "Comparable" t; pure (.bool (← typeInfo t).comparable)
theorem typeOf_ (v : Value) (w : World) : (Extern.ReflectliteType.typeOf #[.iface 166 v]).run Tryd.prog w = .ok (.iface 154 (.agg #[.pointer (some ⟨8, 166, none⟩)])) w := by kernel_rfl
theorem comparable_ (w : World) : ((Extern.ReflectliteType.method cmpF) #[.agg #[.pointer (some ⟨8, 166, none⟩)]]).run Tryd.prog w = .ok (.bool true) w := by kernel_rfl
theorem methodComparable (v : Value) (w : World) : (Go.method 304 154 v "Comparable").run Tryd.prog w = .ok (135, v) w := by kernel_rfl
theorem comp_ : (Tryd.prog.info? 166).map (·.comparable) = some true := by kernel_rfl
theorem size_ : (Tryd.prog.info? 192).map (·.size) = some 1 := by kernel_rfl
theorem noIsE (v : Value) (xT : TypeId) (w : World) : (Instr.typeAssert (.iface 166 v) xT 156 true).run Tryd.prog w = .ok (.tuple #[.nilIface, .bool false]) w := run_typeAssert_lacksB Tryd.underlying156 (by kernel_rfl) (by kernel_rfl) v xT w
theorem noUnwrapE (v : Value) (xT : TypeId) (w : World) : (Instr.typeAssert (.iface 166 v) xT 159 true).run Tryd.prog w = .ok (.tuple #[.nilIface, .bool false]) w := run_typeAssert_lacksB Tryd.underlying159 (by kernel_rfl) (by kernel_rfl) v xT w
theorem noUnwrapsE (v : Value) (xT : TypeId) (w : World) : (Instr.typeAssert (.iface 166 v) xT 161 true).run Tryd.prog w = .ok (.tuple #[.nilIface, .bool false]) w := run_typeAssert_lacksB Tryd.underlying161 (by kernel_rfl) (by kernel_rfl) v xT w
theorem eis_same (a : Addr) (w : World) :
    Calls Tryd.prog 109 #[.iface 166 (.pointer (some a)), .iface 166 (.pointer (some a)), .bool true] w fun e w' => e = .returned (.bool true) ∧ w' = w := by
  obtain ⟨i, hi, hcmp⟩ := Option.map_eq_some_iff.1 comp_
  obtain ⟨j, hj, hjs⟩ := Option.map_eq_some_iff.1 size_
  have heq := run_eql_iface_ptr_same (P := Tryd.prog) w a Tryd.underlying90 Tryd.underlying166 hi hcmp hj
  go_enter Tryd.func109, Tryd.ntmps109
  go_wp2
  refine wp_loop_rounds 1 ?_
  rw [rounds_succ]
  go_wp2
  go_ret
  exact ⟨rfl, rfl⟩
theorem eis_other (a b : Addr) (ca cb : Array Value) (ta tb : TypeId) (w : World) (hne : a ≠ b) (ha : w.heap[a.block]? = some (.cells ca ta (0, 0))) (hb : w.heap[b.block]? = some (.cells cb tb (0, 0))) :
    Calls Tryd.prog 109 #[.iface 166 (.pointer (some a)), .iface 166 (.pointer (some b)), .bool true] w fun e w' => e = .returned (.bool false) ∧ w' = w := by
  obtain ⟨i, hi, hcmp⟩ := Option.map_eq_some_iff.1 comp_
  obtain ⟨j, hj, hjs⟩ := Option.map_eq_some_iff.1 size_
  have nE := noIsE
  have uE := noUnwrapE
  have vE := noUnwrapsE
  have heq := run_eql_iface_ptr_other (P := Tryd.prog) w Tryd.underlying90 Tryd.underlying166 hi hcmp hj (by rw [hjs]; decide) hne ha hb
  go_enter Tryd.func109, Tryd.ntmps109
  go_wp2
  refine wp_loop_rounds 1 ?_
  rw [rounds_succ]
  go_wp2
  go_ret
  exact ⟨rfl, rfl⟩
/-- errors.Is of an error of that make, the sentinel itself or another one -/
theorem is_same (a : Addr) (w : World) :
    Calls Tryd.prog 99 #[.iface 166 (.pointer (some a)), .iface 166 (.pointer (some a))] w fun e w' => e = .returned (.bool true) ∧ w' = w := by
  have h8 := @run_callFunc_extern Tryd.prog 108 _ Extern.ReflectliteType.typeOf Tryd.func108 (by kernel_rfl) (by kernel_rfl) (by kernel_rfl) (by kernel_rfl)
  have h32 := @run_callFunc_extern Tryd.prog 135 _ (Extern.ReflectliteType.method cmpF) Tryd.func135 (by kernel_rfl) (by kernel_rfl) (by kernel_rfl) (by kernel_rfl)
  have tT := typeOf_
  have cT := comparable_
  have mR := methodComparable
  go_enter Tryd.func99, Tryd.ntmps99
  go_wp2_with (go_at_call 109; refine (eis_same a _).mono ?_; rintro e w' ⟨rfl, rfl⟩)
  go_ret
  exact ⟨rfl, rfl⟩
theorem is_other (a b : Addr) (ca cb : Array Value) (ta tb : TypeId) (w : World) (hne : a ≠ b) (ha : w.heap[a.block]? = some (.cells ca ta (0, 0))) (hb : w.heap[b.block]? = some (.cells cb tb (0, 0))) :
    Calls Tryd.prog 99 #[.iface 166 (.pointer (some a)), .iface 166 (.pointer (some b))] w fun e w' => e = .returned (.bool false) ∧ w' = w := by
  have h8 := @run_callFunc_extern Tryd.prog 108 _ Extern.ReflectliteType.typeOf Tryd.func108 (by kernel_rfl) (by kernel_rfl) (by kernel_rfl) (by kernel_rfl)
  have h32 := @run_callFunc_extern Tryd.prog 135 _ (Extern.ReflectliteType.method cmpF) Tryd.func135 (by kernel_rfl) (by kernel_rfl) (by kernel_rfl) (by kernel_rfl)
  have tT := typeOf_
  have cT := comparable_
  have mR := methodComparable
  go_enter Tryd.func99, Tryd.ntmps99
  go_wp2_with (go_at_call 109; refine (eis_other a b ca cb ta tb _ hne ha hb).mono ?_; rintro e w' ⟨rfl, rfl⟩)
  go_ret
  exact ⟨rfl, rfl⟩
end Go.Proofs.YtknifggpodhhdaaDoor.IsC
