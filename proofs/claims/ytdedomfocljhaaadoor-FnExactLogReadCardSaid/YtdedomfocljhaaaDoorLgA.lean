/- Rows of frames that grow. -/
import Derived.Test.YtdedomfocljhaaaDoorFrR
import Derived.Test.YtdedomfocljhaaaDoorFrT
import Derived.Test.YtdedomfocljhaaaDoorARw
namespace Go.Proofs.YtdedomfocljhaaaDoor.FrC
open Go.RowKit PutM PutC JoinC SealC SpanC GetM GetC CrcC KeptC RepC ValC RowC
set_option linter.unusedVariables false
set_option linter.unusedSimpArgs false
set_option maxRecDepth 100000

theorem infoFr : (Tryd.prog.info? 23).map (fun i => (i.zero, i.size, i.bytes)) = some (some (.agg #[.int .i64 0, .string ⟨#[]⟩]), 2, 24) := by kernel_rfl
/-- one frame more -/
theorem frow_app {w w' : World} {lo : Nat} {va : Option Addr} {vc : Nat} {L M : List D_Frame} (h : ARow R_Frame w lo 23 (.slice va L.length vc) L) (hb : Below w.heap.size w w') {blk c : Nat} {n : Int} {t : ByteArray} (hM : M = L ++ [(n, t)])
    (hrow : Blk w' blk 23 #[.int .i64 n, .string t]) (ht : t.size ≤ maxLen) (hL : L.length ≤ 1000000) :
    ∃ a' c' w2, (Builtin.append_ #[29, 29] 29 #[.slice va L.length vc, .slice (some ⟨blk, 0, none⟩) 1 c]).run Tryd.prog w' = .ok (.slice a' M.length c') w2 ∧ ARow R_Frame w2 lo 23 (.slice a' M.length c') M ∧ Below lo w' w2 ∧ (∀ k, w.heap.size ≤ k → k < w'.heap.size → w2.heap[k]? = w'.heap[k]?) := by
  subst hM
  obtain ⟨i, hi', hz, hs, hby⟩ := infoOf infoFr
  obtain ⟨S, h⟩ := h
  have h' := h.call R_Frame_ok (Nat.le_refl _) hb
  obtain ⟨v', w2, S', hrun, hA, hg, ho, _⟩ := h'.app (P := Tryd.prog) (ty := 29) (c := c) R_Frame_ok Tryd.underlying29 hi' hz hs hby rfl (by decide) (x := (n, t)) (us := [.int .i64 n, .string t]) (Sx := fun _ => False) (blk := blk) (fun j u hj => hrow.at_ j (by simpa using hj)) (mkow_Frame ht) (fun k hk => hk.elim) hb.size (by unfold maxLen; omega) (by omega)
  have hA2 : ARow R_Frame w2 lo 23 v' (L ++ [(n, t)]) := ⟨S', hA⟩
  obtain ⟨a', c', rfl⟩ := hA2.isSlice
  have hlo := ARow.base (show ARow R_Frame w lo 23 _ L from ⟨S, h⟩)
  exact ⟨a', c', w2, hrun, hA2, below_own hg (fun k hk => (h.bnd (ho k hk)).1) (Nat.le_trans hlo hb.size), fun k h1 h2 => hg.block k h2 fun e => by have := (h.bnd (ho k e.symm)).2; omega⟩
/-- a frame of the row, read -/
theorem frow_at {w : World} {lo : Nat} {va : Option Addr} {vc : Nat} {L : List D_Frame} (h : ARow R_Frame w lo 23 (.slice va L.length vc) L) {i : Nat} {n : Int} {t : ByteArray} (hx : L[i]? = some (n, t)) :
    ∃ g, va = some ⟨g, 0, none⟩ ∧ g < w.heap.size ∧ w.cell? ⟨g, i * 2, none⟩ = some (.int .i64 n) ∧ w.cell? ⟨g, i * 2 + 1, none⟩ = some (.string t) := by
  obtain ⟨S, h⟩ := h
  obtain ⟨a, c, he, ho⟩ := h.done2
  injection he with e1 e2 e3
  subst e1 e3
  obtain ⟨g, Sf, rfl, hg, _, _, _, hel⟩ := ho.2.2 (by have := (List.getElem?_eq_some_iff.1 hx).1; omega)
  obtain ⟨us, hu, hw⟩ := hel i _ hx
  obtain ⟨rfl, _⟩ := ow0_Frame hw
  refine ⟨g, rfl, (h.bnd hg).2, ?_, ?_⟩
  · simpa [show R_Frame.size = 2 from rfl] using hu 0 _ rfl
  · simpa [show R_Frame.size = 2 from rfl] using hu 1 _ rfl
theorem log_fin {W w : World} {lo : Nat} {va : Option Addr} {vc : Nat} {s : ByteArray} {L : List D_Frame} {a : Int} (hA : ARow R_Frame w lo 23 (.slice va L.length vc) L) (hlo : W.heap.size < lo) (hB : Below W.heap.size W w) (hR : logR s = (L, a, 0)) :
    NewV R_LogOut (logR s) W (.returned (.agg #[.slice va L.length vc, .int .i64 a, .int .i64 0])) (((w.setCell ⟨W.heap.size, 0, none⟩ (.slice va L.length vc)).setCell ⟨W.heap.size, 1, none⟩ (.int .i64 a)).setCell ⟨W.heap.size, 2, none⟩ (.int .i64 0)) := by
  obtain ⟨S, h⟩ := hA
  obtain ⟨a', c', he, ho⟩ := h.done R_Frame_ok
  injection he with e1 e2 e3
  subst e1 e3
  rw [hR]
  refine ⟨[.slice va L.length vc, .int .i64 a, .int .i64 0], rfl, mkow_LogOut (T0 := Rg lo w.heap.size) (fun k hk => ⟨by have := hk.1; omega, by simpa [World.setCell] using hk.2⟩) (ho.keep R_Frame_ok fun k hk => ?_), ((hB.setCell (p := ⟨W.heap.size, 0, none⟩) (Nat.le_refl _) _).setCell (p := ⟨W.heap.size, 1, none⟩) (Nat.le_refl _) _).setCell (p := ⟨W.heap.size, 2, none⟩) (Nat.le_refl _) _⟩
  have hne : k ≠ W.heap.size := by have := hk.1; omega
  exact (Below.heap_setCell _ _ _ _ hne).trans ((Below.heap_setCell _ _ _ _ hne).trans (Below.heap_setCell _ _ _ _ hne))
theorem log_big {W w : World} {s : ByteArray} (hB : Below W.heap.size W w) (hs : ¬ s.size ≤ 8000) : NewV R_LogOut (logR s) W (.returned (.agg #[.slice none 0 0, .int .i64 0, .int .i64 2])) (((w.setCell ⟨W.heap.size, 0, none⟩ (.slice none 0 0)).setCell ⟨W.heap.size, 1, none⟩ (.int .i64 0)).setCell ⟨W.heap.size, 2, none⟩ (.int .i64 2)) := by
  rw [logR_big hs]
  exact ⟨[.slice none 0 0, .int .i64 0, .int .i64 2], rfl, mkow_LogOut (L0 := []) (T0 := fun _ => False) (fun k h => h.elim) ⟨Nat.le_refl _, by unfold maxLen; omega, fun h => absurd h (Nat.lt_irrefl _)⟩, ((hB.setCell (p := ⟨W.heap.size, 0, none⟩) (Nat.le_refl _) _).setCell (p := ⟨W.heap.size, 1, none⟩) (Nat.le_refl _) _).setCell (p := ⟨W.heap.size, 2, none⟩) (Nat.le_refl _) _⟩
/-- the number of the last frame -/
def lastN : List D_Frame → Int
  | [] => -1
  | x :: xs => (xs.getLast?.map (·.1)).getD x.1
theorem lastN_snoc (L : List D_Frame) (x : D_Frame) : lastN (L ++ [x]) = x.1 := by
  cases L with
  | nil => rfl
  | cons y ys => simp [lastN]
theorem log_start {s : ByteArray} (h : s.size ≤ 8000) : LogAt s [] 0 (lastN []) := LogAt.start h
theorem log_step {s : ByteArray} {L M : List D_Frame} {a q n : Int} {t : ByteArray} (h : LogAt s L a (lastN L)) (hf : frR s a = ((n, t), q, 0)) (hn : lastN L < n) (hM : M = L ++ [(n, t)]) : LogAt s M q (lastN M) := by
  subst hM
  rw [lastN_snoc]
  have := h.step (by rw [hf]) (by rw [hf]; exact hn)
  rw [hf] at this
  exact this
theorem log_stop {s : ByteArray} {L : List D_Frame} {a q n c : Int} {t : ByteArray} (h : LogAt s L a (lastN L)) (hs : s.size ≤ 8000) (hf : frR s a = ((n, t), q, c)) (hn : ¬ (c = 0 ∧ lastN L < n)) : logR s = (L, a, 0) := h.stop hs (by rw [hf]; exact hn)
theorem blk3 {w : World} {g : Nat} {t : TypeId} {x0 x1 x2 y0 y1 : Value} (h : Blk w g t #[x0, x1, x2]) : Blk ((w.setCell ⟨g, 0, none⟩ y0).setCell ⟨g, 1, none⟩ y1) g t #[y0, y1, x2] := ((h.set 0 y0).set 1 y1).as rfl
end Go.Proofs.YtdedomfocljhaaaDoor.FrC
