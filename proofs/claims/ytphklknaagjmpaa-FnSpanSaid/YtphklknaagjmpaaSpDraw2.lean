/- The model's draws of rows of spans, and the laws' draws: contracts. -/
import Derived.Test.YtphklknaagjmpaaSpDraw
import Derived.Test.YtphklknaagjmpaaSqRows
namespace Go.Proofs.Ytphklknaagjmpaa.SpanC
open Go.RowKit KeptC RowC ValC DrawC RepC
set_option linter.unusedVariables false
set_option linter.unusedSimpArgs false

/-- a row's elements, in blocks at and above lo, none of them the block 'ob' -/
def PB (W : World) (lo : Nat) (ob : Option Nat) (qa : Option Addr) (n : Nat) (f : Nat → Int × Int) : Prop := ∀ i, i < n → ∃ g o, qa = some ⟨g, o, none⟩ ∧ lo ≤ g ∧ g < W.heap.size ∧ ob ≠ some g ∧ W.cell? ⟨g, o + i * 2, none⟩ = some (.int .i64 (f i).1) ∧ W.cell? ⟨g, o + i * 2 + 1, none⟩ = some (.int .i64 (f i).2)
theorem PB.pa {W : World} {lo : Nat} {ob : Option Nat} {qa : Option Addr} {n : Nat} {f : Nat → Int × Int} (h : PB W lo ob qa n f) : PA W qa n f := fun i hi => by
  obtain ⟨g, o, e, _, h2, _, h3⟩ := h i hi
  exact ⟨g, o, e, h2, h3⟩
theorem PB.keep {W W' : World} {lo lo' : Nat} {ob ob' : Option Nat} {qa : Option Addr} {n : Nat} {f : Nat → Int × Int} (h : PB W lo ob qa n f) (hl : lo' ≤ lo) (hs : W.heap.size ≤ W'.heap.size)
    (hb : ∀ g, lo ≤ g → g < W.heap.size → ob ≠ some g → W'.heap[g]? = W.heap[g]? ∧ ob' ≠ some g) : PB W' lo' ob' qa n f := fun i hi => by
  obtain ⟨g, o, e, h1, h2, h3, h4, h5⟩ := h i hi
  obtain ⟨k1, k2⟩ := hb g h1 h2 h3
  exact ⟨g, o, e, Nat.le_trans hl h1, Nat.lt_of_lt_of_le h2 hs, k2, (World.cell?_of_block (a := ⟨g, _, none⟩) k1).trans h4, (World.cell?_of_block (a := ⟨g, _, none⟩) k1).trans h5⟩
theorem rowO_pb {W : World} {lo n : Nat} {v : Value} {f : Nat → Int × Int} (h : RowS W lo v n f) : ∃ qa qc, v = .slice qa n qc ∧ PB W lo none qa n f := by
  rcases Nat.eq_zero_or_pos n with h0 | h0
  · obtain ⟨a, c, rfl⟩ := h.isSlice
    exact ⟨a, c, rfl, fun i hi => by omega⟩
  · obtain ⟨g', c', rfl, h1, h2, _, hp, _⟩ := RowO.spans h h0
    exact ⟨_, c', rfl, fun i hi => ⟨g', 0, rfl, h1, h2, by simp, (hp i hi).1, (hp i hi).2⟩⟩
theorem infoSS : ∃ i, Try.prog.info? 23 = some i ∧ i.zero = some (.slice none 0 0) ∧ i.size = 1 ∧ i.bytes = 24 := by
  have h : (Try.prog.info? 23).map (fun i => (i.zero, i.size, i.bytes)) = some (some (.slice none 0 0), 1, 24) := by kernel_rfl
  cases hx : Try.prog.info? 23 with
  | none => rw [hx] at h; simp at h
  | some i => rw [hx] at h; simp at h; exact ⟨i, rfl, h.1, h.2.1, h.2.2⟩

/-- rows of spans of a draw -/
structure RowsD (W : World) (lo : Nat) (v : Value) (m : Nat) (N : Nat → Nat) (F : Nat → Nat → Int × Int) (qA : Nat → Option Addr) (qC : Nat → Nat) : Prop where
  row : RowO W lo 23 1 v m (fun k => .slice (qA k) (N k) (qC k))
  el : ∀ k, k < m → PB W lo v.ownBlock (qA k) (N k) (F k)
  len : ∀ k, k < m → N k ≤ 21
section
variable {W W' : World} {lo m : Nat} {v : Value} {N : Nat → Nat} {F : Nat → Nat → Int × Int} {qA : Nat → Option Addr} {qC : Nat → Nat}
theorem RowsD.but {g : Nat} (h : RowsD W lo v m N F qA qC) (hb : But g W W') (hg : g < lo) : RowsD W' lo v m N F qA qC :=
  ⟨ownsRow_but h.row hb hg, fun k hk => (h.el k hk).keep (Nat.le_refl _) hb.size fun q h1 h2 h3 => ⟨hb.block q h2 (by omega), h3⟩, h.len⟩
theorem RowsD.ra (h : RowsD W lo v m N F qA qC) : ∃ qa qc, v = .slice qa m qc ∧ RA W qa m N F qA qC := by
  obtain ⟨a, c, rfl⟩ := h.row.isSlice
  refine ⟨a, c, rfl, fun k hk => ?_, fun k hk => (h.el k hk).pa⟩
  obtain ⟨g, cap, e, _, h2, _, h4, _⟩ := h.row.form (by omega)
  cases e
  exact ⟨g, 0, rfl, h2, by have := h4 k (by omega); simpa using this⟩
/-- one row more, made behind all that is there -/
theorem RowsD.app (h : RowsD W lo v m N F qA qC) {qa : Option Addr} {n qc : Nat} {f : Nat → Int × Int} {B : Nat} (hn : n ≤ 21) (hx : PB W B none qa n f) (hB : ∀ k, v.ownBlock = some k → k < B) (hlB : lo ≤ B) (hBW : B ≤ W.heap.size) (hm : m ≤ 1000) :
    ∃ v' W' N' F' qA' qC', (Builtin.append_ #[29, 29] 29 #[v, .slice (some ⟨W.heap.size, 0, none⟩) 1 1]).run Try.prog (W.alloc (.cells #[.slice qa n qc] 23)) = .ok v' W' ∧ RowsD W' lo v' (m + 1) N' F' qA' qC' ∧ (W.alloc (.cells #[.slice qa n qc] 23)).grownBy W' v.ownBlock := by
  obtain ⟨i, hi, hz, hs, hby⟩ := infoSS
  obtain ⟨W1, hW1⟩ : ∃ x, x = W.alloc (.cells #[.slice qa n qc] 23) := ⟨_, rfl⟩
  have hsz : W1.heap.size = W.heap.size + 1 := by rw [hW1]; simp
  have hkeep : ∀ k, k < W.heap.size → W1.heap[k]? = W.heap[k]? := fun k hk => by rw [hW1]; exact Below.heap_alloc _ _ _ hk
  have hcell : W1.cell? ⟨W.heap.size, 0, none⟩ = some (.slice qa n qc) := by rw [hW1]; simp
  have hrow : RowO W1 lo 23 1 v m (fun k => .slice (qA k) (N k) (qC k)) := by rw [hW1]; exact h.row.alloc _
  rw [← hW1]
  obtain ⟨v', W', hr, hown, hbel, hg, hat⟩ := run_app (P := Try.prog) W1 lo 29 29 23 i _ 1 24 Try.underlying29 hi hz hs hby rfl (by omega) v m _ hrow W.heap.size 0 1 1 (fun _ => .slice qa n qc)
    (fun j hj => by obtain rfl : j = 0 := by omega
                    exact hcell) (fun j _ => rfl) (by unfold maxLen; omega) (by omega) (by omega)
  have hob : ∀ q, q < W.heap.size → v.ownBlock ≠ some q → v'.ownBlock ≠ some q := fun q hq hne e => by
    rcases hat with e2 | e2
    · exact hne (e2 ▸ e)
    · rw [e2] at e; cases e; omega
  have hblk : ∀ q, q < W.heap.size → v.ownBlock ≠ some q → W'.heap[q]? = W.heap[q]? := fun q hq hne => (hg.block q (by omega) (fun e => hne e.symm)).trans (hkeep q hq)
  refine ⟨v', W', fun k => if k = m then n else N k, fun k => if k = m then f else F k, fun k => if k = m then qa else qA k, fun k => if k = m then qc else qC k, hr, ⟨hown.congr (fun j hj => ?_), fun k hk => ?_, fun k hk => ?_⟩, hg⟩
  · by_cases e : j = m
    · subst e; simp
    · rw [if_pos (by omega)]; simp [e]
  · by_cases e : k = m
    · simp only [e, if_true]
      refine hx.keep hlB (by have := hg.size; omega) fun q h1 h2 _ => ?_
      have hne : v.ownBlock ≠ some q := fun e => by have := hB q e; omega
      exact ⟨hblk q h2 hne, hob q h2 hne⟩
    · simp only [e, if_false]
      exact (h.el k (by omega)).keep (Nat.le_refl _) (by have := hg.size; omega) fun q h1 h2 h3 => ⟨hblk q h2 h3, hob q h2 h3⟩
  · by_cases e : k = m
    · simp only [e, if_true]; exact hn
    · simp only [e, if_false]; exact h.len k (by omega)
end
/-- rows of spans of a source, their memory at and above B -/
def DrawnRs (B g : Nat) (b : Option Addr) (len cap : Nat) (w : World) (e : Ending) (w' : World) : Prop := ∃ (v : Value) (m : Nat) (N : Nat → Nat) (F : Nat → Nat → Int × Int) (qA : Nat → Option Addr) (qC : Nat → Nat), e = .returned v ∧ m ≤ 4 ∧ RowsD w' B v m N F qA qC ∧ Src g b len cap w' ∧ But g w w'
theorem drawnRs_elim {B g : Nat} {b : Option Addr} {len cap : Nat} {w : World} {e : Ending} {w' : World} (h : DrawnRs B g b len cap w e w') : ∃ (v : Value) (m : Nat) (N : Nat → Nat) (F : Nat → Nat → Int × Int) (qA : Nat → Option Addr) (qC : Nat → Nat), e = .returned v ∧ m ≤ 4 ∧ RowsD w' B v m N F qA qC ∧ Src g b len cap w' ∧ But g w w' := h

set_option maxRecDepth 100000 in
set_option maxHeartbeats 3200000 in
theorem rows_any (g : Nat) (b : Option Addr) (len cap : Nat) (w : World) (h : Src g b len cap w) :
    Calls Try.prog 23 #[.pointer (some ⟨g, 0, none⟩)] w (DrawnRs w.heap.size g b len cap w) := by
  have hg := h.lt
  have HS := Lib.hid (h.alloc (.cells #[] 23))
  have HV := Lib.hid (show RowsD (w.alloc (.cells #[] 23)) w.heap.size (.slice (some ⟨w.heap.size, 0, none⟩) 0 0) 0 (fun _ => 0) (fun _ _ => (0, 0)) (fun _ => none) (fun _ => 0) from ⟨RowO.made0 w w.heap.size _ 1 _ (Nat.le_refl _), fun k hk => absurd hk (Nat.not_lt_zero _), fun k hk => absurd hk (Nat.not_lt_zero _)⟩)
  clear h
  go_enter Try.func23, Try.ntmps23
  go_wp2_with fail
  refine (n_any g b len cap 4 _ HS.out (by omega)).mono ?_
  rintro e w1 ⟨q, rfl, hq0, hq1, hs, hb⟩
  obtain ⟨q, rfl⟩ : ∃ k : Nat, q = (k : Int) := ⟨q.toNat, by omega⟩
  have HB1 := Lib.hid (((But.refl g w).alloc _).trans hb)
  have HV1 := Lib.hid (HV.out.but hb hg)
  have HS1 := Lib.hid hs
  have hq5 : q ≤ 3 := by omega
  have hq6 : (1 : Int) + (q : Int) = ((q + 1 : Nat) : Int) := by omega
  clear hs hb HS HV hq0 hq1
  go_wp2_with fail
  go_loopw [3, 4] (fun v i wr => ∃ (m k : Nat) (va : Option Addr) (vc : Nat) (N : Nat → Nat) (F : Nat → Nat → Int × Int) (qA : Nat → Option Addr) (qC : Nat → Nat), m + k ≤ 4 ∧ i = .int .i64 k ∧ v = .slice va m vc ∧ Hid (RowsD wr w.heap.size v m N F qA qC) ∧ Hid (Src g b len cap wr) ∧ Hid (But g w wr)) (fun _ i _ => (intOf i).toNat)
  case atStart => exact ⟨0, q + 1, _, _, _, _, _, _, by omega, by go_num, rfl, HV1, HS1, HB1⟩
  case round =>
    obtain ⟨m, k, va, vc, N, F, qA, qC, hmk, rfl, rfl, HV2, HS2, HB2⟩ := hrel
    clear HV1 HS1 HB1
    by_cases hk : 0 < k
    · have hd : decide ((0 : Int) < (k : Int)) = true := decide_eq_true (by omega)
      have hpos : (0 : Int) < (k : Int) := by omega
      have hwr := HB2.out.size
      have hobr : ∀ q, (Value.slice va m vc).ownBlock = some q → q < wr.heap.size := fun q hq => (HV2.out.row.own q hq).2
      have HOB := Lib.hid hobr
      clear hobr
      go_wp2_with fail
      refine (spans_any g b len cap _ HS2.out).mono ?_
      intro e w2 h
      obtain ⟨v2, n, f, rfl, hn, hrow, hs, hb⟩ := drawnSp_elim h
      obtain ⟨qa, qc, rfl, hpb⟩ := rowO_pb hrow
      have hsz := hb.size
      obtain ⟨v4, W4, N', F', qA', qC', hr4, hD4, hg4⟩ := (HV2.out.but hb hg).app (qc := qc) hn hpb HOB.out hwr hsz (by omega)
      obtain ⟨va', vc', rfl⟩ := hD4.row.isSlice
      have HR4 := Lib.hid hr4
      have HV4 := Lib.hid hD4
      have hlo : ∀ q, (Value.slice va m vc).ownBlock = some q → w.heap.size ≤ q := rowO_blk HV2.out.row
      have HB4 := Lib.hid (((HB2.out.trans hb).alloc (.cells #[.slice qa n qc] 23)).grown hg4 hlo)
      have HS4 := Lib.hid ((hs.alloc (.cells #[.slice qa n qc] 23)).grown hg4 (fun k hk => Nat.lt_of_lt_of_le hg (hlo k hk)))
      have hkm : (k : Int) - 1 = ((k - 1 : Nat) : Int) := by omega
      clear h hrow hs hb hpb hr4 hD4 hg4 hlo HS2 HB2 HV2 HOB
      go_wp2_with (at_builtin; refine wpList_app rfl (.tmp 13) (.tmp 16) 29 rfl rfl rfl HR4.out ?_)
      go_roundw
      case rel => exact ⟨m + 1, k - 1, va', vc', N', F', qA', qC', by omega, by go_num, rfl, HV4, HS4, HB4⟩
      case measure => simp [intOf]; omega
    · obtain rfl : k = 0 := by omega
      go_wp2
      go_ret
      exact ⟨_, m, N, F, qA, qC, rfl, by omega, HV2.out, HS2.out, HB2.out⟩
end Go.Proofs.Ytphklknaagjmpaa.SpanC
