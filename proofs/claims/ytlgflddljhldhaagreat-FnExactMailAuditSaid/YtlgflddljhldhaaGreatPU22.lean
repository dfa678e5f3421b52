/- Of this claim's texts the part 22: Bld TaE1 RgO. -/
import Derived.Test.YtlgflddljhldhaaGreatRows
import Derived.Lib.Strings
import Derived.Lib.Slices
import Derived.Lib.Walk
import Derived.Lib.Builder
import Derived.Lib.AppendStr
import Derived.Lib.UnsafeStr
import Derived.Lib.MakeNoZero
import Derived.WalkKit
import Derived.Laws.Externs
import Derived.Laws.IdiomCopy
import Derived.Laws.BitsLemmas
import Derived.Shelf.RegionOpenPlain
import Derived.Test.YtlgflddljhldhaaGreatPU12
import Derived.Test.YtlgflddljhldhaaGreatPU21
section
namespace Go.Proofs.YtlgflddljhldhaaGreat.BldC
open Go.RowKit
set_option linter.unusedVariables false
theorem sizeB : (Tryz.prog.info? 104).map (·.size) = some 2 := by kernel_rfl
theorem liesB : liesAt Tryz.prog Tryz.prog.depth 104 (2 / Tryz.prog.cellsOf 104) 0 104 1 = true := by kernel_rfl
theorem byteI : (Tryz.prog.info? 5).map (fun i => (i.zero, i.size, i.bytes)) = some (some (.int .u8 0), 1, 1) := by kernel_rfl
set_option maxHeartbeats 1000000 in
set_option maxRecDepth 100000 in
theorem check_used (b : Nat) (w : World) (h0 : w.cell? ⟨b, 0, none⟩ = some (.pointer (some ⟨b, 0, none⟩))) :
    Calls Tryz.prog 97 #[.pointer (some ⟨b, 0, none⟩)] w fun e w' => e = .returned (.tuple #[]) ∧ w' = w := by
  obtain ⟨j, hj, _⟩ := Option.map_eq_some_iff.1 sizeB
  go_enter Tryz.func97, Tryz.ntmps97
  go_wp2
  rw [Lib.run_neq_ptr_same w _ Tryz.underlying101 hj]
  go_wp2
  go_end0
  exact ⟨rfl, rfl⟩
set_option maxHeartbeats 1000000 in
set_option maxRecDepth 100000 in
theorem check_fresh (b : Nat) (w : World) (h0 : w.cell? ⟨b, 0, none⟩ = some (.pointer none)) (hsh : w.shape? b = some (104, 2)) (hfz : w.frozen? ⟨b, 0, none⟩ = false) :
    Calls Tryz.prog 97 #[.pointer (some ⟨b, 0, none⟩)] w fun e w' => e = .returned (.tuple #[]) ∧ w' = w.setCell ⟨b, 0, none⟩ (.pointer (some ⟨b, 0, none⟩)) := by
  obtain ⟨j, hj, hjs⟩ := Option.map_eq_some_iff.1 sizeB
  go_enter Tryz.func97, Tryz.ntmps97
  go_wp2
  rw [Lib.run_to_unsafe w ⟨b, 0, none⟩ Tryz.underlying101 Tryz.underlying165 hj (by rw [hjs]; decide) hsh (Nat.zero_lt_succ 1)]
  simp only [Result.andThen]
  rw [Oper.upon_value]
  go_wp2
  rw [run_callFunc_extern Tryz.func120 (by kernel_rfl) (by kernel_rfl) (by kernel_rfl) (e := Extern.AbiNoEscape.same) (by kernel_rfl)]
  rw [Lib.run_noEscape]
  simp only [Result.andThen]
  rw [Oper.upon_value]
  go_wp2
  rw [Lib.run_from_unsafe w ⟨b, 0, none⟩ Tryz.underlying165 Tryz.underlying101 hj hsh liesB]
  simp only [Result.andThen]
  rw [Oper.upon_value]
  go_wp2
  go_end0
  exact ⟨rfl, rfl⟩
theorem check_any (B b : Nat) (bs : List Value) (w : World) (h : Lib.IsBuilder 104 5 B b bs w) :
    Calls Tryz.prog 97 #[.pointer (some ⟨b, 0, none⟩)] w fun e w' => e = .returned (.tuple #[]) ∧ (Lib.BuilderAt 104 5 B b (.pointer (some ⟨b, 0, none⟩)) bs w' ∧ Below B w w') := by
  rcases h with h | h
  · refine (check_fresh b w h.cell0 h.shape h.frozen0).mono ?_
    rintro e w' ⟨rfl, rfl⟩
    exact ⟨rfl, h.used _, (Below.refl B w).setCell (p := ⟨b, 0, none⟩) h.1 _⟩
  · refine (check_used b w h.cell0).mono ?_
    rintro e w' ⟨rfl, rfl⟩
    exact ⟨rfl, h, Below.refl B _⟩
set_option maxHeartbeats 2000000 in
set_option maxRecDepth 100000 in
theorem write_any (B b : Nat) (bs : List Value) (s : ByteArray) (w : World) (h : Lib.IsBuilder 104 5 B b bs w) (hlen : bs.length + s.size ≤ 140737488355328) (hBw : B ≤ w.heap.size) :
    Calls Tryz.prog 66 #[.pointer (some ⟨b, 0, none⟩), .string s] w fun e w' => e = .returned (.tuple #[.int .i64 s.size, .nilIface]) ∧ (Lib.BuilderAt 104 5 B b (.pointer (some ⟨b, 0, none⟩)) (bs ++ Lib.strCells s) w' ∧ Below B w w') := by
  obtain ⟨i0, hi, hz0, hz1, hz2⟩ := info_parts byteI
  go_enter Tryz.func66, Tryz.ntmps66
  go_wp2_with (go_at_call 97; refine (check_any B b bs _ h).mono ?_)
  rintro e w1 ⟨rfl, h1, hb1⟩
  obtain ⟨hB, v, hbk, hown, hne⟩ := h1
  have c0 : w1.cell? ⟨b, 0, none⟩ = some (.pointer (some ⟨b, 0, none⟩)) := by rw [Lib.cell_of_heap hbk]; rfl
  have c1 : w1.cell? ⟨b, 1, none⟩ = some v := by rw [Lib.cell_of_heap hbk]; rfl
  go_wp2_with (at_builtin; refine Lib.wpList_append_own_string _ rfl _ _ 102 9 rfl B 5 i0 Tryz.underlying102 Tryz.underlying9 hi hz0 hz1 hz2 _ _ _ rfl hown s rfl ?c3 ?c4 ?c5 ?_)
  case c3 => unfold maxLen; omega
  case c4 => omega
  case c5 => have := hb1.size; omega
  intro v' w2 hown' hgrow _
  have hlt : b < w1.heap.size := by
    rcases Nat.lt_or_ge b w1.heap.size with h' | h'
    · exact h'
    · simp [Array.getElem?_eq_none h'] at hbk
  have hb2 : w2.heap[b]? = some (.cells #[.pointer (some ⟨b, 0, none⟩), v] 104 (0, 0)) := by
    rw [hgrow.block b hlt (fun e => hne e.symm)]
    exact hbk
  have d0 : w2.cell? ⟨b, 0, none⟩ = some (.pointer (some ⟨b, 0, none⟩)) := by rw [Lib.cell_of_heap hb2]; rfl
  have d1 : w2.cell? ⟨b, 1, none⟩ = some v := by rw [Lib.cell_of_heap hb2]; rfl
  have f1 : w2.frozen? ⟨b, 1, none⟩ = false := Lib.frozen_of_heap hb2 1
  obtain ⟨ao, n', cap, rfl⟩ : ∃ ao n' cap, v' = .slice ao n' cap := by
    rcases hown'.2 with ⟨hv, _⟩ | ⟨g, cap, cur, hv, _⟩
    · exact ⟨_, _, _, hv⟩
    · exact ⟨_, _, _, hv⟩
  go_wp2
  go_ret2
  refine ⟨rfl, ?_, ?_⟩
  · exact Lib.BuilderAt.put (T := 104) (e := 5) hB hb2 (bs' := bs ++ Lib.strCells s) (by simpa [Lib.strCells_length] using hown') (by decide)
  · exact (hb1.grown hgrow (by have := hb1.size; omega) (fun k hk => (hown.lt k hk).1)).setCell (p := ⟨b, 1, none⟩) hB _
theorem at_below {T e : TypeId} {B b : Nat} {p : Value} {bs : List Value} {W W' : World} (h : Lib.BuilderAt T e B b p bs W) (hb : Below W.heap.size W W') : Lib.BuilderAt T e B b p bs W' := by
  have hlt := h.lt
  obtain ⟨hB, v, hv, hown, hne⟩ := h
  exact ⟨hB, v, (hb.block b hlt).trans hv, hown.kept (row := none) ⟨hb.os, hb.tape, hb.output, hb.size, fun k hk _ => hb.block k hk⟩ (Classical.em _), hne⟩
theorem is_below {T e : TypeId} {B b : Nat} {bs : List Value} {W W' : World} (h : Lib.IsBuilder T e B b bs W) (hb : Below W.heap.size W W') : Lib.IsBuilder T e B b bs W' :=
  h.elim (fun x => .inl (at_below x hb)) (fun x => .inr (at_below x hb))
theorem cells_cat (a b : ByteArray) : Lib.strCells a ++ Lib.strCells b = Lib.strCells (a ++ b) := by
  rw [Lib.strCells_eq, Lib.strCells_eq, Lib.strCells_eq, ← Lib.byteCells_append]
  simp
theorem mk_str (s : ByteArray) : (⟨s.data.toList.toArray⟩ : ByteArray) = s := by cases s; simp
theorem str_any (B b : Nat) (s : ByteArray) (w : World) (h : Lib.IsBuilder 104 5 B b (Lib.strCells s) w) (hBw : B ≤ w.heap.size) :
    Calls Tryz.prog 69 #[.pointer (some ⟨b, 0, none⟩)] w fun e w' => e = .returned (.string s) ∧ Below B w w' :=
  (ShelfC.Tryz.Builder_String_any B b s.data.toList w (by rw [Lib.strCells_eq] at h; exact h) hBw).mono fun e w' h => ⟨by rw [h.1, mk_str], h.2⟩
end Go.Proofs.YtlgflddljhldhaaGreat.BldC
end
section
namespace Go.Proofs.YtlgflddljhldhaaGreat.RepC
open Go.RowKit RowC ValC
set_option linter.unusedVariables false
set_option linter.unusedSimpArgs false
def i64R (n : Int) : Prop := -9223372036854775808 ≤ n ∧ n ≤ 9223372036854775807
def catL : List Int → ByteArray
  | [] => ⟨#[]⟩
  | n :: ns => PutM.encB n ++ catL ns
theorem ba_nil (b : ByteArray) : b ++ (⟨#[]⟩ : ByteArray) = b := by apply ByteArray.ext; simp
theorem ba_nil' (b : ByteArray) : (⟨#[]⟩ : ByteArray) ++ b = b := by apply ByteArray.ext; simp
theorem catL_app : ∀ (L M : List Int), catL (L ++ M) = catL L ++ catL M
  | [], M => by simp only [List.nil_append, catL, ba_nil']
  | n :: ns, M => by simp only [List.cons_append, catL, catL_app ns M, ByteArray.append_assoc]
theorem catL_step {L : List Int} {k : Nat} {x : Int} (hx : L[k]? = some x) : catL (L.take (k + 1)) = catL (L.take k) ++ PutM.encB x := by
  rw [List.take_add_one, hx, Option.toList_some, catL_app]
  simp only [catL, ba_nil]
theorem catL_size : ∀ {L : List Int}, (∀ n ∈ L, i64R n) → (catL L).size ≤ 10 * L.length
  | [], _ => Nat.le_refl _
  | n :: ns, h => by
    have h1 := catL_size (L := ns) fun m hm => h m (List.mem_cons_of_mem _ hm)
    have h2 := h n List.mem_cons_self
    have h3 := (PutM.encB_size h2.1 h2.2).2
    simp only [catL, ByteArray.size_append, List.length_cons]
    omega
theorem putS_at (n : Int) {b : ByteArray} (hb : PutM.encB n = b) (h : i64R n) (w : World) : Calls Tryz.prog 64 #[.int .i64 n] w fun e w' => e = .returned (.string b) ∧ Below w.heap.size w w' := by
  subst hb
  exact PutC.put_spec n w h.1 h.2
theorem putI_at (n : Int) {b : ByteArray} (hb : PutM.encB n = b) (h : i64R n) (w : World) : Calls Tryz.prog 67 #[.int .i64 n] w fun e w' => e = .returned (.string b) ∧ Below w.heap.size w w' := by
  subst hb
  exact PutC.put_impl n w h.1 h.2
set_option maxRecDepth 100000 in
set_option maxHeartbeats 1600000 in
theorem putnums_w {L : List Int} {a : Option Addr} {cap : Nat} {W : World} (hl : L.length ≤ 1000000) (hR : ∀ n ∈ L, i64R n) (h : RdSl I W W.heap.size L a cap) :
    Calls Tryz.prog 99 #[.slice a L.length cap] W fun e w' => e = .returned (.string (catL L)) ∧ Below W.heap.size W w' := by
  have H := Lib.hid h
  have HR := Lib.hid hR
  clear h hR
  obtain ⟨V, hV⟩ : ∃ V, V = W.alloc (.cells #[.pointer none, .slice none 0 0] 104) := ⟨_, rfl⟩
  have hbV : Below W.heap.size W V := by rw [hV]; exact (Below.refl _ _).alloc (Nat.le_refl _) _
  have HBV := Lib.hid hbV
  have HI : Hid (Lib.IsBuilder 104 5 W.heap.size W.heap.size [] V) := Lib.hid (by rw [hV]; exact (Lib.fresh_isBuilder 104 5 W))
  have HA := Lib.hid (H.out.below I_ok hbV)
  clear hbV
  go_enter Tryz.func99, Tryz.ntmps99
  go_wp2_with fail
  rw [← hV]
  clear hV
  go_loopw [8] (fun i wr => ∃ k : Nat, k ≤ L.length ∧ i = .int .i64 k ∧ Hid (Lib.IsBuilder 104 5 W.heap.size W.heap.size (Lib.strCells (catL (L.take k))) wr) ∧ Below W.heap.size W wr) (fun i _ => L.length - (intOf i).toNat)
  case atStart => exact ⟨0, Nat.zero_le _, rfl, HI, HBV.out⟩
  case round =>
    obtain ⟨k, hk, rfl, HBu, hB⟩ := hrel
    have HB := Lib.hid hB
    have hsz := hB.size
    by_cases hlt : k < L.length
    · obtain ⟨x, hx⟩ := el_some hlt
      have HST := Lib.hid (catL_step hx)
      have HRX := Lib.hid (HR.out x (List.mem_of_getElem? hx))
      have hcs : (catL (L.take k)).size ≤ 10 * L.length := Nat.le_trans (catL_size fun n hn => HR.out n (List.mem_of_mem_take hn)) (by have := List.length_take_le' k L; omega)
      obtain ⟨g, o, us, rfl, hg, hu, hr⟩ := (H.out.below I_ok hB).at_ hx
      obtain rfl : us = [_] := hr
      have hc0 : wr.cell? ⟨g, o + k, none⟩ = some (.int .i64 x) := by simpa [show I.size = 1 from rfl] using hu 0 _ rfl
      have hi0 : (0 : Int) ≤ (k : Int) := Int.natCast_nonneg _
      have hi1 : (k : Int) < (L.length : Int) := by omega
      obtain ⟨b, hb0⟩ : ∃ b, PutM.encB x = b := ⟨_, rfl⟩
      have hbs : b.size ≤ 10 := by rw [← hb0]; exact (PutM.encB_size HRX.out.1 HRX.out.2).2
      have HB0 := Lib.hid hb0
      rw [hb0] at HST
      clear hB hx hu hb0
      go_wp2_with fail
      refine (putI_at x HB0.out HRX.out _).mono ?_
      rintro e w1 ⟨rfl, hb⟩
      have HB1 := Lib.hid (HB.out.trans (hb.mono hsz))
      have HI1 := Lib.hid (BldC.is_below HBu.out hb)
      clear hb hc0
      go_wp2_with fail
      refine (BldC.write_any _ _ _ b _ HI1.out (by rw [Lib.strCells_length]; omega) HB1.out.size).mono ?_
      rintro e w2 ⟨rfl, hw, hb⟩
      have HB2 := Lib.hid (HB1.out.trans hb)
      have HI2 := Lib.hid (show Lib.IsBuilder 104 5 W.heap.size W.heap.size (Lib.strCells (catL (L.take (k + 1)))) w2 from by rw [HST.out, ← BldC.cells_cat]; exact .inr hw)
      clear hw hb
      go_wp2
      go_roundw
      case rel => exact ⟨k + 1, by omega, by go_num, HI2, HB2.out⟩
      case measure => simp [intOf]; omega
    · have hdl : decide ((k : Int) < (L.length : Int)) = false := decide_eq_false (by omega)
      obtain rfl : k = L.length := by omega
      have HBE := Lib.hid (show Lib.IsBuilder 104 5 W.heap.size W.heap.size (Lib.strCells (catL L)) wr from by have := HBu.out; rwa [List.take_length] at this)
      clear hB HBu
      go_wp2_with fail
      refine (BldC.str_any _ _ _ _ HBE.out HB.out.size).mono ?_
      rintro e w1 ⟨rfl, hb⟩
      have HB1 := Lib.hid (HB.out.trans hb)
      clear hb
      go_wp2
      go_ret
      exact ⟨rfl, HB1.out⟩
end Go.Proofs.YtlgflddljhldhaaGreat.RepC
end
section
namespace Go.Proofs.YtlgflddljhldhaaGreat.RepC
open Go.ChangeShapes Go.WideShapes Go.ChangeAt Go.RowKit Go.Joins Go.Deep RowC ValC
set_option linter.unusedVariables false
set_option linter.unusedSimpArgs false
set_option maxRecDepth 100000
def Rs {α : Type} (E : Rp α) (P : α → Prop) : Rp α := { E with rd := fun W B d cs => E.rd W B d cs ∧ P d, ow := fun W S d cs => E.ow W S d cs ∧ P d }
theorem rsl {α : Type} {E F : Rp α} {P : α → Prop} (hs : F.size = E.size) (hE : ∀ W B d cs, F.rd W B d cs → E.rd W B d cs ∧ P d) {W : World} {B : Nat} {L : List α} {a : Option Addr} {c : Nat} (h : RdSl F W B L a c) : RdSl E W B L a c ∧ ∀ x ∈ L, P x := by
  refine ⟨⟨h.1, h.2.1, fun hn => ?_⟩, fun x hx => ?_⟩
  · obtain ⟨g, o, ha, hg, hc⟩ := h.2.2 hn
    refine ⟨g, o, ha, hg, fun i x hx => ?_⟩
    obtain ⟨us, hu, hr⟩ := hc i x hx
    exact ⟨us, by rw [← hs]; exact hu, (hE _ _ _ _ hr).1⟩
  · obtain ⟨i, hi⟩ := List.getElem?_of_mem hx
    obtain ⟨g, o, ha, hg, hc⟩ := h.2.2 (by have := (List.getElem?_eq_some_iff.1 hi).1; omega)
    obtain ⟨us, hu, hr⟩ := hc i x hi
    exact (hE _ _ _ _ hr).2
def Ir : Rp Int := Rs I i64R
theorem wf_i64 {n : Int} (h : (Lit.int .i64 n).wf = true) : i64R n := by
  have h2 : (decide (IntKind.i64.min ≤ n) && decide (n ≤ IntKind.i64.max)) = true := h
  rw [Bool.and_eq_true, decide_eq_true_eq, decide_eq_true_eq] at h2
  have e1 : IntKind.i64.min = -9223372036854775808 := by decide
  have e2 : IntKind.i64.max = 9223372036854775807 := by decide
  rw [e1, e2] at h2
  exact h2
theorem opn_ir {t : TypeId} (ht : Tryz.prog.underlying t = some (.int .i64)) : Opn Ir t := fun enc W fuel cs y h => by
  obtain ⟨n, rfl, _, hw⟩ := DataW.trod_int ht h
  exact ⟨n, rfl, wf_i64 hw⟩
end Go.Proofs.YtlgflddljhldhaaGreat.RepC
end
