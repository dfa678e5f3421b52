/- Tools for EntryRead: an append that leaves what came behind; a fresh entry; calls by what they give. -/
import Derived.Test.YtdimpopkkjpddaaDoorEnM
import Derived.Test.YtdimpopkkjpddaaDoorGetImpl
import Derived.Test.YtdimpopkkjpddaaDoorAppN
import Derived.Test.YtdimpopkkjpddaaDoorRowO
namespace Go.Proofs.YtdimpopkkjpddaaDoor.EnC
open Go.RowKit KeptC LabC RepC EnM PutM GetM GetC SealC RowC ValC
set_option linter.unusedVariables false
set_option linter.unusedSimpArgs false
set_option maxRecDepth 100000

/-- a number more; what came behind the row stays -/
theorem app_int2 {w : World} {lo hi : Nat} {v : Value} {L : List Int} {xs : List Value} {Sf : Nat → Nat → Prop} (h : App I w lo hi 2 v L xs Sf) (x : Int) (hlo : lo ≤ hi) (hL : L.length + 1 ≤ 17592186044416) :
    ∃ a c w' xs' Sf', (Builtin.append_ #[46, 46] 46 #[v, .slice (some ⟨w.heap.size, 0, none⟩) 1 1]).run Tryd.prog (w.alloc (.cells #[.int .i64 x] 2)) = .ok (.slice a (L ++ [x]).length c) w' ∧ App I w' lo w'.heap.size 2 (.slice a (L ++ [x]).length c) (L ++ [x]) xs' Sf' ∧ Below lo w w' ∧ ∀ k, hi ≤ k → k < w.heap.size → w'.heap[k]? = w.heap[k]? := by
  obtain ⟨i, hi', hz, hsize, hby⟩ := infoI64
  have hb := Blk.new w 2 #[.int .i64 x]
  have hbl : Below w.heap.size w (w.alloc (.cells #[.int .i64 x] 2)) := (Below.refl _ _).alloc (Nat.le_refl _) _
  have h1 := h.call I_ok hbl
  obtain ⟨v', w', xs', Sf', hr, hA, hg, _, _⟩ := h1.app2 (P := Tryd.prog) I_ok (t := 46) Tryd.underlying46 hi' hz hsize hby rfl (by decide) (x := x) (us := [.int .i64 x]) (Sx := fun _ => False) (blk := w.heap.size) (c := 1) (ty := 46) (fun p y hp => hb.at_ p (by simpa using hp)) rfl (fun k hk => hk.elim) hlo (by unfold maxLen; omega) (by omega)
  obtain ⟨a, c, rfl⟩ := hA.isSlice
  have hle := h.le
  exact ⟨a, c, w', xs', Sf', hr, hA, (hbl.mono (by omega)).trans (below_own hg (fun k hk => (h.blk k hk).1) (by have := hbl.size; omega)), fun k hk hk2 => (hg.block k (Nat.lt_of_lt_of_le hk2 hbl.size) (fun e => by have := (h.blk k e.symm).2; omega)).trans (hbl.block k hk2)⟩
theorem unseal_at {s T : ByteArray} {E : Int} (hT : unsealT s = T) (hE : unsealE s = E) (hs : s.size ≤ maxLen) (w : World) : Calls Tryd.prog 42 #[.string s] w fun e w' => e = .returned (.agg #[.string T, .int .i64 0, .int .i64 E]) ∧ Below w.heap.size w w' := by
  subst hT hE
  exact unseal_spec s w hs
theorem unseal_iat {s T : ByteArray} {E : Int} (hT : unsealT s = T) (hE : unsealE s = E) (hs : s.size ≤ maxLen) (w : World) : Calls Tryd.prog 45 #[.string s] w fun e w' => e = .returned (.agg #[.string T, .int .i64 0, .int .i64 E]) ∧ Below w.heap.size w w' := by
  subst hT hE
  exact unseal_impl s w hs
theorem get_sok {s : ByteArray} {p : Nat} {n : Int} {q : Nat} (hs : s.size ≤ 8000) (hp : p ≤ 8000) (hc : (gotOf s p).code = 0) (hn : unf (gotOf s p).u = n) (hq : p + (gotOf s p).used = q) (w : World) : Calls Tryd.prog 43 #[.string s, .int .i64 p] w fun e w' => e = .returned (.agg #[.int .i64 n, .int .i64 q, .int .i64 0]) ∧ Below w.heap.size w w' := by
  have h := got_at hs hc
  rw [hn, hq] at h
  exact (spec_any s p w (by unfold maxLen; omega) (by omega)).mono fun e w' h2 => ⟨by rw [h2.1, h]; rfl, h2.2⟩
theorem get_sno {s : ByteArray} {p : Nat} {c : Int} (hs : s.size ≤ 8000) (hp : p ≤ 8000) (hc : ¬ (gotOf s p).code = 0) (he : (gotOf s p).code = c) (w : World) : Calls Tryd.prog 43 #[.string s, .int .i64 p] w fun e w' => e = .returned (.agg #[.int .i64 0, .int .i64 0, .int .i64 c]) ∧ Below w.heap.size w w' := by
  have h := got_not hs hc
  rw [he] at h
  exact (spec_any s p w (by unfold maxLen; omega) (by omega)).mono fun e w' h2 => ⟨by rw [h2.1, h]; rfl, h2.2⟩
theorem bytes_at {x0 x1 x2 x3 x4 x5 : Int} {v : ByteArray} (h : bytesE x0 x1 x2 x3 x4 x5 = v) (W : World) : Calls Tryd.prog 44 #[.agg #[.int .i64 x0, .int .i64 x1, .int .i64 x2, .int .i64 x3, .int .i64 x4, .int .i64 x5]] W fun e w' => e = .returned (.string v) ∧ Below W.heap.size W w' := by
  subst h
  exact bytes_spec x0 x1 x2 x3 x4 x5 W
theorem bytes_inj' {a b : ByteArray} (h : a.toList = b.toList) : a = b := by
  rw [ByteArray.toList_eq, ByteArray.toList_eq] at h
  exact ByteArray.ext (by simpa using h)
theorem ret_e {a b : Value} (h : a = b) : Ending.returned a = .returned b := by rw [h]
theorem en_new {w V : World} (h : Below w.heap.size w V) : ∃ (U : World) (b : Nat), U = V.alloc (.cells #[.int .i64 0, .int .i64 0, .int .i64 0, .int .i64 0, .int .i64 0, .int .i64 0] 25) ∧ b = V.heap.size ∧ Below V.heap.size V U ∧ Blk U b 25 #[.int .i64 0, .int .i64 0, .int .i64 0, .int .i64 0, .int .i64 0, .int .i64 0] ∧ w.heap.size ≤ b :=
  ⟨_, _, rfl, rfl, (Below.refl _ _).alloc (Nat.le_refl _) _, Blk.new _ _ _, h.size⟩
theorem en_store {w V : World} {b : Nat} (h : Below w.heap.size w V) (hX : Blk V b 25 #[.int .i64 0, .int .i64 0, .int .i64 0, .int .i64 0, .int .i64 0, .int .i64 0]) (hb : w.heap.size ≤ b) (x0 x1 x2 x3 x4 x5 : Int) :
    ∃ Z : World, Z = ((((((V.setCell ⟨b, 0, none⟩ (.int .i64 x0)).setCell ⟨b, 1, none⟩ (.int .i64 x1)).setCell ⟨b, 2, none⟩ (.int .i64 x2)).setCell ⟨b, 3, none⟩ (.int .i64 x3)).setCell ⟨b, 4, none⟩ (.int .i64 x4)).setCell ⟨b, 5, none⟩ (.int .i64 x5)) ∧ Below w.heap.size w Z ∧ Blk Z b 25 #[.int .i64 x0, .int .i64 x1, .int .i64 x2, .int .i64 x3, .int .i64 x4, .int .i64 x5] :=
  ⟨_, rfl, ((((((h.setCell (p := ⟨b, 0, none⟩) hb _).setCell (p := ⟨b, 1, none⟩) hb _).setCell (p := ⟨b, 2, none⟩) hb _).setCell (p := ⟨b, 3, none⟩) hb _).setCell (p := ⟨b, 4, none⟩) hb _).setCell (p := ⟨b, 5, none⟩) hb _), (((((((hX.set 0 (.int .i64 x0)).set 1 (.int .i64 x1)).set 2 (.int .i64 x2)).set 3 (.int .i64 x3)).set 4 (.int .i64 x4)).set 5 (.int .i64 x5))).as rfl⟩
/-- the answer's block, filled -/
theorem out_sets {w : World} {g : Nat} {v0 v1 v2 v3 v4 v5 v6 : Value} (h : Blk w g 27 #[.int .i64 0, .int .i64 0, .int .i64 0, .int .i64 0, .int .i64 0, .int .i64 0, .int .i64 0]) : Blk (((((((w.setCell ⟨g, 0, none⟩ v0).setCell ⟨g, 1, none⟩ v1).setCell ⟨g, 2, none⟩ v2).setCell ⟨g, 3, none⟩ v3).setCell ⟨g, 4, none⟩ v4).setCell ⟨g, 5, none⟩ v5).setCell ⟨g, 6, none⟩ v6) g 27 #[v0, v1, v2, v3, v4, v5, v6] := ((((((((h.set 0 v0).set 1 v1).set 2 v2).set 3 v3).set 4 v4).set 5 v5).set 6 v6)).as rfl
theorem out_below {w w0 : World} {B g : Nat} (h : Below B w0 w) (hg : B ≤ g) (v0 v1 v2 v3 v4 v5 v6 : Value) : Below B w0 (((((((w.setCell ⟨g, 0, none⟩ v0).setCell ⟨g, 1, none⟩ v1).setCell ⟨g, 2, none⟩ v2).setCell ⟨g, 3, none⟩ v3).setCell ⟨g, 4, none⟩ v4).setCell ⟨g, 5, none⟩ v5).setCell ⟨g, 6, none⟩ v6) := (((((((h.setCell (p := ⟨g, 0, none⟩) hg _).setCell (p := ⟨g, 1, none⟩) hg _).setCell (p := ⟨g, 2, none⟩) hg _).setCell (p := ⟨g, 3, none⟩) hg _).setCell (p := ⟨g, 4, none⟩) hg _).setCell (p := ⟨g, 5, none⟩) hg _).setCell (p := ⟨g, 6, none⟩) hg _)
theorem out_al {w : World} {g : Nat} (h : Blk w g 27 #[.int .i64 0, .int .i64 0, .int .i64 0, .int .i64 0, .int .i64 0, .int .i64 0, .int .i64 0]) (v0 v1 v2 v3 v4 v5 v6 : Value) (o : Obj) : ∃ Wf : World, Wf = (((((((w.setCell ⟨g, 0, none⟩ v0).setCell ⟨g, 1, none⟩ v1).setCell ⟨g, 2, none⟩ v2).setCell ⟨g, 3, none⟩ v3).setCell ⟨g, 4, none⟩ v4).setCell ⟨g, 5, none⟩ v5).setCell ⟨g, 6, none⟩ v6).alloc o ∧ Blk Wf g 27 #[v0, v1, v2, v3, v4, v5, v6] ∧ ∀ (w0 : World) (B : Nat), Below B w0 w → B ≤ g → Below B w0 Wf :=
  ⟨_, rfl, (out_sets h).alloc _, fun w0 B hb hg => (out_below hb hg v0 v1 v2 v3 v4 v5 v6).alloc (Nat.le_trans (Nat.le_of_lt (Nat.lt_of_le_of_lt hg (out_sets h).lt)) (Nat.le_refl _)) _⟩
theorem out_none {w : World} {g : Nat} (h : Blk w g 27 #[.int .i64 0, .int .i64 0, .int .i64 0, .int .i64 0, .int .i64 0, .int .i64 0, .int .i64 0]) (v0 v1 v2 v3 v4 v5 v6 : Value) : ∃ Wf : World, Wf = (((((((w.setCell ⟨g, 0, none⟩ v0).setCell ⟨g, 1, none⟩ v1).setCell ⟨g, 2, none⟩ v2).setCell ⟨g, 3, none⟩ v3).setCell ⟨g, 4, none⟩ v4).setCell ⟨g, 5, none⟩ v5).setCell ⟨g, 6, none⟩ v6) ∧ Blk Wf g 27 #[v0, v1, v2, v3, v4, v5, v6] ∧ ∀ (w0 : World) (B : Nat), Below B w0 w → B ≤ g → Below B w0 Wf :=
  ⟨_, rfl, out_sets h, fun w0 B hb hg => out_below hb hg v0 v1 v2 v3 v4 v5 v6⟩
end Go.Proofs.YtdimpopkkjpddaaDoor.EnC
