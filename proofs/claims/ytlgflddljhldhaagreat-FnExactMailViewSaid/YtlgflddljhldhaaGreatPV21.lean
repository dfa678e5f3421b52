/- Of this claim's texts the part 21: Bld TaE1 RgO MlOr CatB MlV. -/
import Derived.Test.YtlgflddljhldhaaGreatRows
import Derived.Lib.Strings
import Derived.Lib.Slices
import Derived.Lib.Walk
import Derived.Lib.Builder
import Derived.Lib.AppendStr
import Derived.Lib.UnsafeStr
import Derived.Lib.MakeNoZero
import Derived.WalkKit
import Derived.Laws.Externs
import Derived.Laws.IdiomCopy
import Derived.Laws.BitsLemmas
import Derived.Shelf.RegionOpenPlain
import Derived.Test.YtlgflddljhldhaaGreatPV17
import Derived.Test.YtlgflddljhldhaaGreatPV19
import Derived.Test.YtlgflddljhldhaaGreatPV20
section
namespace Go.Proofs.YtlgflddljhldhaaGreat.BldC
open Go.RowKit
set_option linter.unusedVariables false
theorem sizeB : (Tryz.prog.info? 104).map (·.size) = some 2 := by kernel_rfl
theorem liesB : liesAt Tryz.prog Tryz.prog.depth 104 (2 / Tryz.prog.cellsOf 104) 0 104 1 = true := by kernel_rfl
theorem byteI : (Tryz.prog.info? 5).map (fun i => (i.zero, i.size, i.bytes)) = some (some (.int .u8 0), 1, 1) := by kernel_rfl
set_option maxHeartbeats 1000000 in
set_option maxRecDepth 100000 in
theorem check_used (b : Nat) (w : World) (h0 : w.cell? ⟨b, 0, none⟩ = some (.pointer (some ⟨b, 0, none⟩))) :
    Calls Tryz.prog 97 #[.pointer (some ⟨b, 0, none⟩)] w fun e w' => e = .returned (.tuple #[]) ∧ w' = w := by
  obtain ⟨j, hj, _⟩ := Option.map_eq_some_iff.1 sizeB
  go_enter Tryz.func97, Tryz.ntmps97
  go_wp2
  rw [Lib.run_neq_ptr_same w _ Tryz.underlying101 hj]
  go_wp2
  go_end0
  exact ⟨rfl, rfl⟩
set_option maxHeartbeats 1000000 in
set_option maxRecDepth 100000 in
theorem check_fresh (b : Nat) (w : World) (h0 : w.cell? ⟨b, 0, none⟩ = some (.pointer none)) (hsh : w.shape? b = some (104, 2)) (hfz : w.frozen? ⟨b, 0, none⟩ = false) :
    Calls Tryz.prog 97 #[.pointer (some ⟨b, 0, none⟩)] w fun e w' => e = .returned (.tuple #[]) ∧ w' = w.setCell ⟨b, 0, none⟩ (.pointer (some ⟨b, 0, none⟩)) := by
  obtain ⟨j, hj, hjs⟩ := Option.map_eq_some_iff.1 sizeB
  go_enter Tryz.func97, Tryz.ntmps97
  go_wp2
  rw [Lib.run_to_unsafe w ⟨b, 0, none⟩ Tryz.underlying101 Tryz.underlying165 hj (by rw [hjs]; decide) hsh (Nat.zero_lt_succ 1)]
  simp only [Result.andThen]
  rw [Oper.upon_value]
  go_wp2
  rw [run_callFunc_extern Tryz.func120 (by kernel_rfl) (by kernel_rfl) (by kernel_rfl) (e := Extern.AbiNoEscape.same) (by kernel_rfl)]
  rw [Lib.run_noEscape]
  simp only [Result.andThen]
  rw [Oper.upon_value]
  go_wp2
  rw [Lib.run_from_unsafe w ⟨b, 0, none⟩ Tryz.underlying165 Tryz.underlying101 hj hsh liesB]
  simp only [Result.andThen]
  rw [Oper.upon_value]
  go_wp2
  go_end0
  exact ⟨rfl, rfl⟩
theorem check_any (B b : Nat) (bs : List Value) (w : World) (h : Lib.IsBuilder 104 5 B b bs w) :
    Calls Tryz.prog 97 #[.pointer (some ⟨b, 0, none⟩)] w fun e w' => e = .returned (.tuple #[]) ∧ (Lib.BuilderAt 104 5 B b (.pointer (some ⟨b, 0, none⟩)) bs w' ∧ Below B w w') := by
  rcases h with h | h
  · refine (check_fresh b w h.cell0 h.shape h.frozen0).mono ?_
    rintro e w' ⟨rfl, rfl⟩
    exact ⟨rfl, h.used _, (Below.refl B w).setCell (p := ⟨b, 0, none⟩) h.1 _⟩
  · refine (check_used b w h.cell0).mono ?_
    rintro e w' ⟨rfl, rfl⟩
    exact ⟨rfl, h, Below.refl B _⟩
set_option maxHeartbeats 2000000 in
set_option maxRecDepth 100000 in
theorem write_any (B b : Nat) (bs : List Value) (s : ByteArray) (w : World) (h : Lib.IsBuilder 104 5 B b bs w) (hlen : bs.length + s.size ≤ 140737488355328) (hBw : B ≤ w.heap.size) :
    Calls Tryz.prog 66 #[.pointer (some ⟨b, 0, none⟩), .string s] w fun e w' => e = .returned (.tuple #[.int .i64 s.size, .nilIface]) ∧ (Lib.BuilderAt 104 5 B b (.pointer (some ⟨b, 0, none⟩)) (bs ++ Lib.strCells s) w' ∧ Below B w w') := by
  obtain ⟨i0, hi, hz0, hz1, hz2⟩ := info_parts byteI
  go_enter Tryz.func66, Tryz.ntmps66
  go_wp2_with (go_at_call 97; refine (check_any B b bs _ h).mono ?_)
  rintro e w1 ⟨rfl, h1, hb1⟩
  obtain ⟨hB, v, hbk, hown, hne⟩ := h1
  have c0 : w1.cell? ⟨b, 0, none⟩ = some (.pointer (some ⟨b, 0, none⟩)) := by rw [Lib.cell_of_heap hbk]; rfl
  have c1 : w1.cell? ⟨b, 1, none⟩ = some v := by rw [Lib.cell_of_heap hbk]; rfl
  go_wp2_with (at_builtin; refine Lib.wpList_append_own_string _ rfl _ _ 102 9 rfl B 5 i0 Tryz.underlying102 Tryz.underlying9 hi hz0 hz1 hz2 _ _ _ rfl hown s rfl ?c3 ?c4 ?c5 ?_)
  case c3 => unfold maxLen; omega
  case c4 => omega
  case c5 => have := hb1.size; omega
  intro v' w2 hown' hgrow _
  have hlt : b < w1.heap.size := by
    rcases Nat.lt_or_ge b w1.heap.size with h' | h'
    · exact h'
    · simp [Array.getElem?_eq_none h'] at hbk
  have hb2 : w2.heap[b]? = some (.cells #[.pointer (some ⟨b, 0, none⟩), v] 104 (0, 0)) := by
    rw [hgrow.block b hlt (fun e => hne e.symm)]
    exact hbk
  have d0 : w2.cell? ⟨b, 0, none⟩ = some (.pointer (some ⟨b, 0, none⟩)) := by rw [Lib.cell_of_heap hb2]; rfl
  have d1 : w2.cell? ⟨b, 1, none⟩ = some v := by rw [Lib.cell_of_heap hb2]; rfl
  have f1 : w2.frozen? ⟨b, 1, none⟩ = false := Lib.frozen_of_heap hb2 1
  obtain ⟨ao, n', cap, rfl⟩ : ∃ ao n' cap, v' = .slice ao n' cap := by
    rcases hown'.2 with ⟨hv, _⟩ | ⟨g, cap, cur, hv, _⟩
    · exact ⟨_, _, _, hv⟩
    · exact ⟨_, _, _, hv⟩
  go_wp2
  go_ret2
  refine ⟨rfl, ?_, ?_⟩
  · exact Lib.BuilderAt.put (T := 104) (e := 5) hB hb2 (bs' := bs ++ Lib.strCells s) (by simpa [Lib.strCells_length] using hown') (by decide)
  · exact (hb1.grown hgrow (by have := hb1.size; omega) (fun k hk => (hown.lt k hk).1)).setCell (p := ⟨b, 1, none⟩) hB _
theorem at_below {T e : TypeId} {B b : Nat} {p : Value} {bs : List Value} {W W' : World} (h : Lib.BuilderAt T e B b p bs W) (hb : Below W.heap.size W W') : Lib.BuilderAt T e B b p bs W' := by
  have hlt := h.lt
  obtain ⟨hB, v, hv, hown, hne⟩ := h
  exact ⟨hB, v, (hb.block b hlt).trans hv, hown.kept (row := none) ⟨hb.os, hb.tape, hb.output, hb.size, fun k hk _ => hb.block k hk⟩ (Classical.em _), hne⟩
theorem is_below {T e : TypeId} {B b : Nat} {bs : List Value} {W W' : World} (h : Lib.IsBuilder T e B b bs W) (hb : Below W.heap.size W W') : Lib.IsBuilder T e B b bs W' :=
  h.elim (fun x => .inl (at_below x hb)) (fun x => .inr (at_below x hb))
theorem cells_cat (a b : ByteArray) : Lib.strCells a ++ Lib.strCells b = Lib.strCells (a ++ b) := by
  rw [Lib.strCells_eq, Lib.strCells_eq, Lib.strCells_eq, ← Lib.byteCells_append]
  simp
theorem mk_str (s : ByteArray) : (⟨s.data.toList.toArray⟩ : ByteArray) = s := by cases s; simp
theorem str_any (B b : Nat) (s : ByteArray) (w : World) (h : Lib.IsBuilder 104 5 B b (Lib.strCells s) w) (hBw : B ≤ w.heap.size) :
    Calls Tryz.prog 69 #[.pointer (some ⟨b, 0, none⟩)] w fun e w' => e = .returned (.string s) ∧ Below B w w' :=
  (ShelfC.Tryz.Builder_String_any B b s.data.toList w (by rw [Lib.strCells_eq] at h; exact h) hBw).mono fun e w' h => ⟨by rw [h.1, mk_str], h.2⟩
end Go.Proofs.YtlgflddljhldhaaGreat.BldC
end
section
namespace Go.Proofs.YtlgflddljhldhaaGreat.RepC
open Go.RowKit RowC ValC
set_option linter.unusedVariables false
set_option linter.unusedSimpArgs false
def i64R (n : Int) : Prop := -9223372036854775808 ≤ n ∧ n ≤ 9223372036854775807
def catL : List Int → ByteArray
  | [] => ⟨#[]⟩
  | n :: ns => PutM.encB n ++ catL ns
theorem ba_nil (b : ByteArray) : b ++ (⟨#[]⟩ : ByteArray) = b := by apply ByteArray.ext; simp
theorem ba_nil' (b : ByteArray) : (⟨#[]⟩ : ByteArray) ++ b = b := by apply ByteArray.ext; simp
theorem catL_app : ∀ (L M : List Int), catL (L ++ M) = catL L ++ catL M
  | [], M => by simp only [List.nil_append, catL, ba_nil']
  | n :: ns, M => by simp only [List.cons_append, catL, catL_app ns M, ByteArray.append_assoc]
theorem catL_step {L : List Int} {k : Nat} {x : Int} (hx : L[k]? = some x) : catL (L.take (k + 1)) = catL (L.take k) ++ PutM.encB x := by
  rw [List.take_add_one, hx, Option.toList_some, catL_app]
  simp only [catL, ba_nil]
theorem catL_size : ∀ {L : List Int}, (∀ n ∈ L, i64R n) → (catL L).size ≤ 10 * L.length
  | [], _ => Nat.le_refl _
  | n :: ns, h => by
    have h1 := catL_size (L := ns) fun m hm => h m (List.mem_cons_of_mem _ hm)
    have h2 := h n List.mem_cons_self
    have h3 := (PutM.encB_size h2.1 h2.2).2
    simp only [catL, ByteArray.size_append, List.length_cons]
    omega
theorem putS_at (n : Int) {b : ByteArray} (hb : PutM.encB n = b) (h : i64R n) (w : World) : Calls Tryz.prog 64 #[.int .i64 n] w fun e w' => e = .returned (.string b) ∧ Below w.heap.size w w' := by
  subst hb
  exact PutC.put_spec n w h.1 h.2
theorem putI_at (n : Int) {b : ByteArray} (hb : PutM.encB n = b) (h : i64R n) (w : World) : Calls Tryz.prog 67 #[.int .i64 n] w fun e w' => e = .returned (.string b) ∧ Below w.heap.size w w' := by
  subst hb
  exact PutC.put_impl n w h.1 h.2
set_option maxRecDepth 100000 in
set_option maxHeartbeats 1600000 in
theorem putnums_w {L : List Int} {a : Option Addr} {cap : Nat} {W : World} (hl : L.length ≤ 1000000) (hR : ∀ n ∈ L, i64R n) (h : RdSl I W W.heap.size L a cap) :
    Calls Tryz.prog 99 #[.slice a L.length cap] W fun e w' => e = .returned (.string (catL L)) ∧ Below W.heap.size W w' := by
  have H := Lib.hid h
  have HR := Lib.hid hR
  clear h hR
  obtain ⟨V, hV⟩ : ∃ V, V = W.alloc (.cells #[.pointer none, .slice none 0 0] 104) := ⟨_, rfl⟩
  have hbV : Below W.heap.size W V := by rw [hV]; exact (Below.refl _ _).alloc (Nat.le_refl _) _
  have HBV := Lib.hid hbV
  have HI : Hid (Lib.IsBuilder 104 5 W.heap.size W.heap.size [] V) := Lib.hid (by rw [hV]; exact (Lib.fresh_isBuilder 104 5 W))
  have HA := Lib.hid (H.out.below I_ok hbV)
  clear hbV
  go_enter Tryz.func99, Tryz.ntmps99
  go_wp2_with fail
  rw [← hV]
  clear hV
  go_loopw [8] (fun i wr => ∃ k : Nat, k ≤ L.length ∧ i = .int .i64 k ∧ Hid (Lib.IsBuilder 104 5 W.heap.size W.heap.size (Lib.strCells (catL (L.take k))) wr) ∧ Below W.heap.size W wr) (fun i _ => L.length - (intOf i).toNat)
  case atStart => exact ⟨0, Nat.zero_le _, rfl, HI, HBV.out⟩
  case round =>
    obtain ⟨k, hk, rfl, HBu, hB⟩ := hrel
    have HB := Lib.hid hB
    have hsz := hB.size
    by_cases hlt : k < L.length
    · obtain ⟨x, hx⟩ := el_some hlt
      have HST := Lib.hid (catL_step hx)
      have HRX := Lib.hid (HR.out x (List.mem_of_getElem? hx))
      have hcs : (catL (L.take k)).size ≤ 10 * L.length := Nat.le_trans (catL_size fun n hn => HR.out n (List.mem_of_mem_take hn)) (by have := List.length_take_le' k L; omega)
      obtain ⟨g, o, us, rfl, hg, hu, hr⟩ := (H.out.below I_ok hB).at_ hx
      obtain rfl : us = [_] := hr
      have hc0 : wr.cell? ⟨g, o + k, none⟩ = some (.int .i64 x) := by simpa [show I.size = 1 from rfl] using hu 0 _ rfl
      have hi0 : (0 : Int) ≤ (k : Int) := Int.natCast_nonneg _
      have hi1 : (k : Int) < (L.length : Int) := by omega
      obtain ⟨b, hb0⟩ : ∃ b, PutM.encB x = b := ⟨_, rfl⟩
      have hbs : b.size ≤ 10 := by rw [← hb0]; exact (PutM.encB_size HRX.out.1 HRX.out.2).2
      have HB0 := Lib.hid hb0
      rw [hb0] at HST
      clear hB hx hu hb0
      go_wp2_with fail
      refine (putI_at x HB0.out HRX.out _).mono ?_
      rintro e w1 ⟨rfl, hb⟩
      have HB1 := Lib.hid (HB.out.trans (hb.mono hsz))
      have HI1 := Lib.hid (BldC.is_below HBu.out hb)
      clear hb hc0
      go_wp2_with fail
      refine (BldC.write_any _ _ _ b _ HI1.out (by rw [Lib.strCells_length]; omega) HB1.out.size).mono ?_
      rintro e w2 ⟨rfl, hw, hb⟩
      have HB2 := Lib.hid (HB1.out.trans hb)
      have HI2 := Lib.hid (show Lib.IsBuilder 104 5 W.heap.size W.heap.size (Lib.strCells (catL (L.take (k + 1)))) w2 from by rw [HST.out, ← BldC.cells_cat]; exact .inr hw)
      clear hw hb
      go_wp2
      go_roundw
      case rel => exact ⟨k + 1, by omega, by go_num, HI2, HB2.out⟩
      case measure => simp [intOf]; omega
    · have hdl : decide ((k : Int) < (L.length : Int)) = false := decide_eq_false (by omega)
      obtain rfl : k = L.length := by omega
      have HBE := Lib.hid (show Lib.IsBuilder 104 5 W.heap.size W.heap.size (Lib.strCells (catL L)) wr from by have := HBu.out; rwa [List.take_length] at this)
      clear hB HBu
      go_wp2_with fail
      refine (BldC.str_any _ _ _ _ HBE.out HB.out.size).mono ?_
      rintro e w1 ⟨rfl, hb⟩
      have HB1 := Lib.hid (HB.out.trans hb)
      clear hb
      go_wp2
      go_ret
      exact ⟨rfl, HB1.out⟩
end Go.Proofs.YtlgflddljhldhaaGreat.RepC
end
section
namespace Go.Proofs.YtlgflddljhldhaaGreat.RepC
open Go.ChangeShapes Go.WideShapes Go.ChangeAt Go.RowKit Go.Joins Go.Deep RowC ValC
set_option linter.unusedVariables false
set_option linter.unusedSimpArgs false
set_option maxRecDepth 100000
def Rs {α : Type} (E : Rp α) (P : α → Prop) : Rp α := { E with rd := fun W B d cs => E.rd W B d cs ∧ P d, ow := fun W S d cs => E.ow W S d cs ∧ P d }
theorem rsl {α : Type} {E F : Rp α} {P : α → Prop} (hs : F.size = E.size) (hE : ∀ W B d cs, F.rd W B d cs → E.rd W B d cs ∧ P d) {W : World} {B : Nat} {L : List α} {a : Option Addr} {c : Nat} (h : RdSl F W B L a c) : RdSl E W B L a c ∧ ∀ x ∈ L, P x := by
  refine ⟨⟨h.1, h.2.1, fun hn => ?_⟩, fun x hx => ?_⟩
  · obtain ⟨g, o, ha, hg, hc⟩ := h.2.2 hn
    refine ⟨g, o, ha, hg, fun i x hx => ?_⟩
    obtain ⟨us, hu, hr⟩ := hc i x hx
    exact ⟨us, by rw [← hs]; exact hu, (hE _ _ _ _ hr).1⟩
  · obtain ⟨i, hi⟩ := List.getElem?_of_mem hx
    obtain ⟨g, o, ha, hg, hc⟩ := h.2.2 (by have := (List.getElem?_eq_some_iff.1 hi).1; omega)
    obtain ⟨us, hu, hr⟩ := hc i x hi
    exact (hE _ _ _ _ hr).2
def Ir : Rp Int := Rs I i64R
theorem wf_i64 {n : Int} (h : (Lit.int .i64 n).wf = true) : i64R n := by
  have h2 : (decide (IntKind.i64.min ≤ n) && decide (n ≤ IntKind.i64.max)) = true := h
  rw [Bool.and_eq_true, decide_eq_true_eq, decide_eq_true_eq] at h2
  have e1 : IntKind.i64.min = -9223372036854775808 := by decide
  have e2 : IntKind.i64.max = 9223372036854775807 := by decide
  rw [e1, e2] at h2
  exact h2
theorem opn_ir {t : TypeId} (ht : Tryz.prog.underlying t = some (.int .i64)) : Opn Ir t := fun enc W fuel cs y h => by
  obtain ⟨n, rfl, _, hw⟩ := DataW.trod_int ht h
  exact ⟨n, rfl, wf_i64 hw⟩
end Go.Proofs.YtlgflddljhldhaaGreat.RepC
end
section
namespace Go.Proofs.YtlgflddljhldhaaGreat.RepC
open Go.ChangeShapes Go.WideShapes Go.ChangeAt Go.RowKit Go.Joins Go.Deep RowC ValC
set_option maxRecDepth 100000
set_option linter.unusedVariables false
set_option linter.unusedSimpArgs false
def R_NoteR : Rp D_Note := Pr Ir Ir
def R_BoxRg : Rp D_Box := Pr (Sl Ir) (Pr (Sl Ir) (Sl R_NoteR))
def R_MailR : Rp D_Mail := Sl R_BoxRg
theorem opr_i64 : Opn Ir 2 := opn_ir Tryz.underlying2
theorem opr_i64s : Opn (Sl Ir) 70 := opn_sl opr_i64 (by decide) Tryz.underlying70 c_int64
theorem opr_Note : Opn R_NoteR 171 := fun enc W fuel cs y h => by
  obtain ⟨xs, n, _, _, hl, hlen, hf⟩ := DataW.trod_struct Tryz.underlying171 h
  rw [c_Note] at hl
  match cs, hl with
  | [c0, c1], _ =>
    have e2 : xs.length = 2 := hlen
    match xs, e2 with
    | [y0, y1], _ =>
      have g0 := fld hf 0 2 0 1 rfl c_int64
      have g1 := fld hf 1 2 1 1 rfl c_int64
      obtain ⟨d0, h0⟩ := opr_i64 enc W n [c0] y0 g0
      obtain ⟨d1, h1⟩ := opr_i64 enc W n [c1] y1 g1
      exact ⟨(d0, d1), ⟨[c0], [c1], rfl, h0, h1⟩⟩
theorem opr_NoteS : Opn (Sl R_NoteR) 115 := opn_sl opr_Note (by decide) Tryz.underlying115 c_Note
theorem opr_Box : Opn R_BoxRg 117 := fun enc W fuel cs y h => by
  obtain ⟨xs, n, _, _, hl, hlen, hf⟩ := DataW.trod_struct Tryz.underlying117 h
  rw [c_Box] at hl
  match cs, hl with
  | [c0, c1, c2], _ =>
    have e2 : xs.length = 3 := hlen
    match xs, e2 with
    | [y0, y1, y2], _ =>
      have g0 := fld hf 0 70 0 1 rfl c_i64s
      have g1 := fld hf 1 70 1 1 rfl c_i64s
      have g2 := fld hf 2 115 2 1 rfl c_NoteS
      obtain ⟨d0, h0⟩ := opr_i64s enc W n [c0] y0 g0
      obtain ⟨d1, h1⟩ := opr_i64s enc W n [c1] y1 g1
      obtain ⟨d2, h2⟩ := opr_NoteS enc W n [c2] y2 g2
      exact ⟨(d0, d1, d2), ⟨[c0], [c1, c2], rfl, h0, ⟨[c1], [c2], rfl, h1, h2⟩⟩⟩
theorem opr_BoxS : Opn (Sl R_BoxRg) 27 := opn_sl opr_Box (by decide) Tryz.underlying27 c_Box
theorem opr_Mail : Opn R_MailR 29 := fun enc W fuel cs y h => by
  obtain ⟨xs, n, _, _, hl, hlen, hf⟩ := DataW.trod_struct Tryz.underlying29 h
  rw [c_Mail] at hl
  match cs, hl with
  | [c0], _ =>
    have e2 : xs.length = 1 := hlen
    match xs, e2 with
    | [y0], _ =>
      have g0 := fld hf 0 27 0 1 rfl c_BoxS
      obtain ⟨d0, h0⟩ := opr_BoxS enc W n [c0] y0 g0
      exact ⟨(d0), h0⟩
def BdN (x : D_Note) : Prop := i64R x.1 ∧ i64R x.2
def BdB (b : D_Box) : Prop := (∀ n ∈ b.1, i64R n) ∧ (∀ n ∈ b.2.1, i64R n) ∧ ∀ x ∈ b.2.2, BdN x
def BdM (m : D_Mail) : Prop := ∀ b ∈ m, BdB b
theorem ir_rd (W : World) (B : Nat) (d : Int) (cs : List Value) (h : Ir.rd W B d cs) : I.rd W B d cs ∧ i64R d := h
theorem irs_rd {W : World} {B : Nat} {L : List Int} {cs : List Value} (h : (Sl Ir).rd W B L cs) : (Sl I).rd W B L cs ∧ ∀ n ∈ L, i64R n := by
  obtain ⟨a, c, rfl, h⟩ := h
  have h2 := rsl (E := I) (F := Ir) rfl ir_rd h
  exact ⟨⟨a, c, rfl, h2.1⟩, h2.2⟩
theorem noter_rd (W : World) (B : Nat) (d : D_Note) (cs : List Value) (h : R_NoteR.rd W B d cs) : R_Note.rd W B d cs ∧ BdN d := by
  obtain ⟨us, vs, rfl, h1, h2⟩ := h
  exact ⟨⟨us, vs, rfl, h1.1, h2.1⟩, h1.2, h2.2⟩
theorem noters_rd {W : World} {B : Nat} {L : List D_Note} {cs : List Value} (h : (Sl R_NoteR).rd W B L cs) : (Sl R_Note).rd W B L cs ∧ ∀ x ∈ L, BdN x := by
  obtain ⟨a, c, rfl, h⟩ := h
  have h2 := rsl (E := R_Note) (F := R_NoteR) rfl noter_rd h
  exact ⟨⟨a, c, rfl, h2.1⟩, h2.2⟩
theorem boxr_rd (W : World) (B : Nat) (d : D_Box) (cs : List Value) (h : R_BoxRg.rd W B d cs) : R_Box.rd W B d cs ∧ BdB d := by
  obtain ⟨us, vs, rfl, h1, us2, vs2, rfl, h2, h3⟩ := h
  have k1 := irs_rd h1
  have k2 := irs_rd h2
  have k3 := noters_rd h3
  exact ⟨⟨us, us2 ++ vs2, rfl, k1.1, us2, vs2, rfl, k2.1, k3.1⟩, k1.2, k2.2, k3.2⟩
theorem mailr_rd {W : World} {B : Nat} {m : D_Mail} {cs : List Value} (h : R_MailR.rd W B m cs) : R_Mail.rd W B m cs ∧ BdM m := by
  obtain ⟨a, c, rfl, h⟩ := h
  have h2 := rsl (E := R_Box) (F := R_BoxRg) rfl boxr_rd h
  exact ⟨⟨a, c, rfl, h2.1⟩, h2.2⟩
theorem openr_Mail {H : Type} {enc : TypeId × Value → H} {W : World} {base : Nat} {v : Value} {d : DataW H} {p : List MemPlace} (o : Value.okWide Tryz.prog W .any base 29 v) (h : DataW.Trod enc Tryz.prog W 0 (fun _ => true) true 29 v d p) :
    ∃ (L0 : List (D_Box)) (a0 : Option Addr) (c0 : Nat), v = .agg #[.slice a0 L0.length c0] ∧ R_Mail.rd W W.heap.size L0 [.slice a0 L0.length c0] ∧ BdM L0 := by
  obtain ⟨L0, cs, rfl, hr⟩ := open_st opr_Mail Tryz.underlying29 o h
  obtain ⟨hr, hb⟩ := mailr_rd hr
  obtain ⟨a0, c0, rfl, h0⟩ := rdc_Mail hr
  exact ⟨L0, a0, c0, rfl, h0, hb⟩
end Go.Proofs.YtlgflddljhldhaaGreat.RepC
end
section
namespace Go.Proofs.YtlgflddljhldhaaGreat.RepC
open Go.RowKit RowC ValC
set_option linter.unusedVariables false
set_option linter.unusedSimpArgs false
def catB : List ByteArray → ByteArray
  | [] => ⟨#[]⟩
  | b :: bs => b ++ catB bs
theorem catB_app : ∀ (L M : List ByteArray), catB (L ++ M) = catB L ++ catB M
  | [], M => by simp only [List.nil_append, catB, ba_nil']
  | b :: bs, M => by simp only [List.cons_append, catB, catB_app bs M, ByteArray.append_assoc]
theorem catB_size {c : Nat} : ∀ {L : List ByteArray}, (∀ b ∈ L, b.size ≤ c) → (catB L).size ≤ c * L.length
  | [], _ => Nat.zero_le _
  | b :: bs, h => by
    have h1 := catB_size (L := bs) fun m hm => h m (List.mem_cons_of_mem _ hm)
    have h2 := h b List.mem_cons_self
    simp only [catB, ByteArray.size_append, List.length_cons, Nat.mul_add, Nat.mul_one]
    omega
def catTo {α : Type} (f : α → ByteArray) (L : List α) (k : Nat) : ByteArray := catB ((L.take k).map f)
theorem catTo_zero {α : Type} {f : α → ByteArray} {L : List α} : catTo f L 0 = ⟨#[]⟩ := rfl
theorem catTo_step {α : Type} {f : α → ByteArray} {L : List α} {k : Nat} {x : α} (hx : L[k]? = some x) : catTo f L (k + 1) = catTo f L k ++ f x := by
  unfold catTo
  rw [List.take_add_one, hx, Option.toList_some, List.map_append, catB_app]
  simp only [List.map_cons, List.map_nil, catB, ba_nil]
theorem catTo_size {α : Type} {f : α → ByteArray} {L : List α} {c n : Nat} (k : Nat) (hL : L.length ≤ n) (h : ∀ x ∈ L, (f x).size ≤ c) : (catTo f L k).size ≤ c * n := by
  unfold catTo
  refine Nat.le_trans (catB_size (c := c) fun b hb => ?_) (Nat.mul_le_mul_left _ ?_)
  · obtain ⟨x, hx, rfl⟩ := List.mem_map.1 hb
    exact h x (List.mem_of_mem_take hx)
  · rw [List.length_map]
    exact Nat.le_trans (List.length_take_le' _ _) hL
theorem small_enc {n : Int} (h : i64R n) : (PutM.encB n).size ≤ 10 := (PutM.encB_size h.1 h.2).2
end Go.Proofs.YtlgflddljhldhaaGreat.RepC
end
section
namespace Go.Proofs.YtlgflddljhldhaaGreat.RepC
open Go.RowKit RowC ValC SpanC KeptC CfC
set_option linter.unusedVariables false
set_option linter.unusedSimpArgs false
def mSees (a b : D_Label) : Bool := LabC.bB a.1 a.2 b.1 b.2
def mBelow (a b : D_Label) : Bool := LabC.belowB a.1 a.2 b.1 b.2
def wordB (n : Int) : ByteArray := PutM.encB n
def hereB (b : D_Box) : ByteArray := PutM.encB (b.2.1.length : Int) ++ catTo wordB b.2.1 b.2.1.length
def toL (p : D_Pair) : D_Label := p.2.1
noncomputable def partM (sees : D_Label → D_Label → Bool) (sel : D_Pair → D_Label) (f : D_Box → ByteArray) (P : List D_Pair) (m : List D_Box) (l : D_Label) (i : Nat) : ByteArray :=
  match P[i]?, m[i]? with
  | some p, some b => if sees (sel p) l = true then PutM.encB (i : Int) ++ f b else ⟨#[]⟩
  | _, _ => ⟨#[]⟩
theorem partM_yes {sees : D_Label → D_Label → Bool} {sel : D_Pair → D_Label} {f : D_Box → ByteArray} {P : List D_Pair} {m : List D_Box} {l : D_Label} {i : Nat} {p : D_Pair} {b : D_Box} (hp : P[i]? = some p) (hb : m[i]? = some b) (h : sees (sel p) l = true) : partM sees sel f P m l i = PutM.encB (i : Int) ++ f b := by
  unfold partM
  rw [hp, hb]
  exact if_pos h
theorem partM_no {sees : D_Label → D_Label → Bool} {sel : D_Pair → D_Label} {f : D_Box → ByteArray} {P : List D_Pair} {m : List D_Box} {l : D_Label} {i : Nat} {p : D_Pair} {b : D_Box} (hp : P[i]? = some p) (hb : m[i]? = some b) (h : sees (sel p) l = false) : partM sees sel f P m l i = ⟨#[]⟩ := by
  unfold partM
  rw [hp, hb]
  exact if_neg (by rw [h]; decide)
noncomputable def catM (sees : D_Label → D_Label → Bool) (sel : D_Pair → D_Label) (f : D_Box → ByteArray) (P : List D_Pair) (m : List D_Box) (l : D_Label) (k : Nat) : ByteArray := catB ((List.range k).map (partM sees sel f P m l))
theorem catM_step {sees : D_Label → D_Label → Bool} {sel : D_Pair → D_Label} {f : D_Box → ByteArray} {P : List D_Pair} {m : List D_Box} {l : D_Label} (k : Nat) : catM sees sel f P m l (k + 1) = catM sees sel f P m l k ++ partM sees sel f P m l k := by
  unfold catM
  rw [List.range_succ, List.map_append, catB_app]
  simp only [List.map_cons, List.map_nil, catB, ba_nil]
theorem catM_size {sees : D_Label → D_Label → Bool} {sel : D_Pair → D_Label} {f : D_Box → ByteArray} {P : List D_Pair} {m : List D_Box} {l : D_Label} {c : Nat} (h : ∀ (i : Nat) b, m[i]? = some b → (f b).size ≤ c) (k : Nat) (hk : k ≤ 4) : (catM sees sel f P m l k).size ≤ (c + 10) * 4 := by
  unfold catM
  refine Nat.le_trans (catB_size (c := c + 10) fun b hb => ?_) (Nat.mul_le_mul_left _ (by simpa using hk))
  obtain ⟨i, hi, rfl⟩ := List.mem_map.1 hb
  have hi2 : i < k := List.mem_range.1 hi
  unfold partM
  cases hp : P[i]? with
  | none => exact Nat.zero_le _
  | some p =>
    cases hm : m[i]? with
    | none => exact Nat.zero_le _
    | some x =>
      have h1 := h i x hm
      have h2 := small_enc (n := (i : Int)) ⟨by omega, by omega⟩
      show (if sees (sel p) l = true then PutM.encB (i : Int) ++ f x else ⟨#[]⟩ : ByteArray).size ≤ c + 10
      split
      · rw [ByteArray.size_append]; omega
      · exact Nat.zero_le _
noncomputable def readM (sel : D_Pair → D_Label) (f : D_Box → ByteArray) (d : D_Config) (m : D_Mail) (l : D_Label) : ByteArray := if mailB d m = true ∧ LabC.rB l.1 l.2 = true then catM mSees sel f d.2.1 m l d.2.1.length else ⟨#[]⟩
theorem readM_yes {sel : D_Pair → D_Label} {f : D_Box → ByteArray} {d : D_Config} {m : D_Mail} {l : D_Label} (h1 : mailB d m = true) (h2 : LabC.rB l.1 l.2 = true) : readM sel f d m l = catM mSees sel f d.2.1 m l d.2.1.length := if_pos ⟨h1, h2⟩
theorem readM_no1 {sel : D_Pair → D_Label} {f : D_Box → ByteArray} {d : D_Config} {m : D_Mail} {l : D_Label} (h1 : mailB d m = false) : readM sel f d m l = ⟨#[]⟩ := if_neg fun h => by rw [h1] at h; cases h.1
theorem readM_no2 {sel : D_Pair → D_Label} {f : D_Box → ByteArray} {d : D_Config} {m : D_Mail} {l : D_Label} (h2 : LabC.rB l.1 l.2 = false) : readM sel f d m l = ⟨#[]⟩ := if_neg fun h => by rw [h2] at h; cases h.2
theorem catM_congr {s1 s2 : D_Label → D_Label → Bool} {sel : D_Pair → D_Label} {f : D_Box → ByteArray} {P : List D_Pair} {m : List D_Box} {l : D_Label} (h : ∀ (i : Nat) p, P[i]? = some p → s1 (sel p) l = s2 (sel p) l) (k : Nat) : catM s1 sel f P m l k = catM s2 sel f P m l k := by
  unfold catM
  congr 1
  refine List.map_congr_left fun i _ => ?_
  unfold partM
  cases hp : P[i]? with
  | none => rfl
  | some p =>
    cases hm : m[i]? with
    | none => rfl
    | some b => simp only [h i p hp]
theorem catM_none {s1 : D_Label → D_Label → Bool} {sel : D_Pair → D_Label} {f : D_Box → ByteArray} {P : List D_Pair} {m : List D_Box} {l : D_Label} (h : ∀ (i : Nat) p, P[i]? = some p → s1 (sel p) l = false) (k : Nat) : catM s1 sel f P m l k = ⟨#[]⟩ := by
  induction k with
  | zero => rfl
  | succ k ih =>
    rw [catM_step, ih]
    unfold partM
    cases hp : P[k]? with
    | none => exact ba_nil _
    | some p =>
      cases hm : m[k]? with
      | none => exact ba_nil _
      | some b => simp only [h k p hp, Bool.false_eq_true, if_false]; exact ba_nil _
theorem pair_labs {d : D_Config} {m : D_Mail} (h : mailP d m) {i : Nat} {p : D_Pair} (hp : d.2.1[i]? = some p) : LabC.rB p.1.1 p.1.2 = true ∧ LabC.rB p.2.1.1 p.2.1.2 = true := by
  have h1 := h.1.2.2.2.1.2 i p hp
  exact ⟨(LabC.rB_iff _ _).2 (mem_labs.1 h1.1).1, (LabC.rB_iff _ _).2 (mem_labs.1 h1.2.1).1⟩
theorem readM_prog {sel : D_Pair → D_Label} {f : D_Box → ByteArray} {d : D_Config} {m : D_Mail} {l : D_Label} (h : mailB d m = true) (hs : ∀ p : D_Pair, LabC.rB p.1.1 p.1.2 = true ∧ LabC.rB p.2.1.1 p.2.1.2 = true → LabC.rB (sel p).1 (sel p).2 = true) : readM sel f d m l = catM mBelow sel f d.2.1 m l d.2.1.length := by
  have hm := mailB_iff.1 h
  cases hr : LabC.rB l.1 l.2 with
  | true =>
    rw [readM_yes h hr]
    exact catM_congr (fun i p hp => (LabC.below_yes (hs p (pair_labs hm hp)) hr).symm) _
  | false =>
    rw [readM_no2 hr, catM_none fun i p hp => LabC.below_no2 hr]
theorem words_size {L : List Int} {n : Nat} (hL : L.length ≤ n) (h : ∀ x ∈ L, i64R x) (k : Nat) : (catTo wordB L k).size ≤ 10 * n := catTo_size k hL fun x hx => small_enc (h x hx)
theorem hereB_size {b : D_Box} (h3 : b.2.1.length ≤ 3) (h : BdB b) : (hereB b).size ≤ 40 := by
  have h1 := words_size h3 h.2.1 b.2.1.length
  have h2 := small_enc (n := (b.2.1.length : Int)) ⟨by omega, by omega⟩
  unfold hereB
  rw [ByteArray.size_append]
  omega
theorem catTo_word : ∀ (L : List Int) (k : Nat), catTo wordB L k = catL (L.take k) := fun L k => by
  have h : ∀ M : List Int, catB (M.map wordB) = catL M := fun M => by
    induction M with
    | nil => rfl
    | cons n ns ih => simp only [List.map_cons, catB, catL, ih]; rfl
  exact h _
theorem mail_here {d : D_Config} {m : D_Mail} (h : mailP d m) {i : Nat} {x : D_Box} (hx : m[i]? = some x) : x.1.length ≤ 3 ∧ x.2.1.length ≤ 3 ∧ x.2.2.length ≤ 12 := by
  obtain ⟨p, _, hb, _, h3⟩ := mail_pair h hx
  have h1 := hb.1
  have h2 := hb.2.1
  exact ⟨by omega, by omega, hb.2.2.1⟩
end Go.Proofs.YtlgflddljhldhaaGreat.RepC
end
