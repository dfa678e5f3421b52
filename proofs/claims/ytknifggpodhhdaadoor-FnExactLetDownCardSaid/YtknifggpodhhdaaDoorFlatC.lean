/- 'append([]T{}, l...)' of letters, at any time: what it leaves. -/
import Derived.Test.YtknifggpodhhdaaDoorDkN
import Derived.Test.YtknifggpodhhdaaDoorLetG
namespace Go.Proofs.YtknifggpodhhdaaDoor.RepC
open Go.RowKit RowC ValC
set_option linter.unusedVariables false
set_option maxRecDepth 100000

/-- every block but g is as it was -/
def But2 (w w' : World) (g : Nat) : Prop := w.heap.size ≤ w'.heap.size ∧ (∀ k, k < w.heap.size → k ≠ g → w'.heap[k]? = w.heap[k]?) ∧ ∀ B, B ≤ g → B ≤ w.heap.size → Below B w w'
theorem But2.blk {w w' : World} {g k : Nat} {t : TypeId} {cs : Array Value} (h : But2 w w' g) (hb : Blk w k t cs) (hk : k ≠ g) : Blk w' k t cs := (h.2.1 k hb.lt hk).trans hb
theorem But2.alloc (w : World) (o : Obj) : But2 w (w.alloc o) w.heap.size := ⟨by simp, fun k hk _ => Below.heap_alloc w o k hk, fun B _ hB => (Below.refl _ _).alloc hB _⟩
theorem LRow.grow {w : World} {lo : Nat} {v : Value} {L M : List D_Letter} {a : Option Addr} {cap g : Nat} (h : LRow w lo v L) (hg : ∀ k, v.ownBlock = some k → k = g) (hgl : g < w.heap.size) (hM : RdSl R_Letter w w.heap.size M a cap) (hlo : lo ≤ g) (hL : L.length + M.length ≤ 2932031007402) :
    ∃ a' c' w', (Builtin.append_ #[40, 40] 40 #[v, .slice a M.length cap]).run Tryd.prog w = .ok (.slice a' (L ++ M).length c') w' ∧ LRow w' lo (.slice a' (L ++ M).length c') (L ++ M) ∧ But2 w w' g ∧ (∀ k, (Value.slice a' (L ++ M).length c').ownBlock = some k → k = g ∨ w.heap.size ≤ k) := by
  obtain ⟨i, hi', hz, hs, hby⟩ := infoLetter
  have ht : Tryd.prog.underlying 40 = some (.slice 87) := Tryd.underlying40
  cases a with
  | none =>
    have h0 : M = [] := by
      cases M with
      | nil => rfl
      | cons y ys => obtain ⟨g, o, ha, _⟩ := hM.2.2 (by simp); cases ha
    subst h0
    obtain ⟨a', c', rfl⟩ := h.isSlice
    simp only [List.append_nil]
    exact ⟨a', c', w, append_none ht hi' h.own cap, h, ⟨Nat.le_refl _, fun k _ _ => rfl, fun B _ _ => Below.refl _ _⟩, fun k hk => .inl (hg k hk)⟩
  | some x =>
    obtain ⟨news, hlen, hcells, hone, hnews⟩ : ∃ news : List Value, news.length = M.length * R_Letter.size ∧ (∀ j u, news[j]? = some u → w.cell? (x.add j) = some u) ∧ (∀ u ∈ news, u.oneCell' = true) ∧ news = M.flatMap (fun x => [.int .i64 x.1.1, .int .i64 x.1.2, .int .i64 x.2.1.1, .int .i64 x.2.1.2, .int .i64 x.2.2.1, .int .i64 x.2.2.2]) := by
      refine ⟨_, flatMap_len R_Letter_ok flat_Letter w M, fun j u hj => ?_, fun u hu => ?_, rfl⟩
      · cases M with
        | nil => simp at hj
        | cons y ys =>
          obtain ⟨g, o, ha, hg, hel⟩ := hM.2.2 (by simp)
          cases ha
          have hall := flatMap_cells R_Letter_ok flat_Letter w g (y :: ys) o fun i x hx => by
            obtain ⟨us, hu, hr⟩ := hel i x hx
            rw [← flat_Letter.rd hr]
            exact hu
          have hadd : (⟨g, o, none⟩ : Addr).add j = ⟨g, o + j, none⟩ := by unfold Addr.add; split <;> simp_all
          rw [hadd]
          exact hall j u hj
      · obtain ⟨y, hy, hu⟩ := List.mem_flatMap.1 hu
        exact R_Letter_ok.one (R_Letter_ok.ow_rd (B := 0) (flat_Letter.ow w (fun _ => False) y) (fun k h => h.elim)) u hu
    obtain ⟨v', w', hrun, hown, hgr, _, hat⟩ := run_append_own_at (P := Tryd.prog) w lo 40 40 87 i _ R_Letter.size 48 ht hi' hz hs hby rfl (by decide) v L.length _ h.own x M.length cap news hlen hcells hone (by unfold maxLen; omega) (by omega) (by omega)
    rw [hnews, ← List.flatMap_append, ← List.length_append] at hown
    have hnew : ∀ k, v'.ownBlock = some k → k = g ∨ k = w.heap.size := fun k hk => by
      rcases hat with e | e
      · rw [e] at hk; exact .inl (hg k hk)
      · rw [e] at hk; cases hk; exact .inr rfl
    have hF2 : LRow w' lo v' (L ++ M) := ⟨hown, fun k hk => by
      rcases hown.2 with ⟨hn, _⟩ | ⟨g', cap', cur, hv, hlog, hgg, _⟩
      · rw [hn] at hk; cases hk
      · rw [hv] at hk
        cases hk
        exact ⟨hlog, (Array.getElem?_eq_some_iff.1 hgg).1⟩⟩
    obtain ⟨a', c', rfl⟩ := hF2.isSlice
    refine ⟨a', c', w', hrun, hF2, ⟨hgr.size, fun k hk hne => hgr.block k hk (fun e => hne (hg k e.symm)), fun B hB hBw => below_own hgr (fun k hk => by have := hg k hk; omega) hBw⟩, fun k hk => ?_⟩
    rcases hnew k hk with e | e
    · exact .inl e
    · exact .inr (by omega)
end Go.Proofs.YtknifggpodhhdaaDoor.RepC
