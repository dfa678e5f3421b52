/- Jobs by label: the map under way. -/
import Derived.Test.YtfmgjkmlnaeagaaJobK
namespace Go.Proofs.Ytfmgjkmlnaeagaa.RepC
open Go.RowKit RowC ValC SpanC KeptC Go.ChangeShapes Go.Maps
open Go.ChangeMaps (setBlock heap_setBlock_same heap_setBlock_other)
open Go.WideElems (Fit rd rg pl entry_then_store)
set_option linter.unusedVariables false
set_option maxRecDepth 100000

def heldR (v : Value) : Option (DataW Value × List MemPlace) := some (.held v, [])
def nilS : Value := .slice none 0 0
theorem m_zero (w : World) : (zeroValue 38).run Try.prog w = .ok nilS w := by kernel_rfl
theorem m_infoJ : ∃ i, Try.prog.info? 31 = some i ∧ i.zero = some (.agg #[.int .i64 0, .int .i64 0, .int .i64 0, .int .i64 0, .int .i64 0, .int .i64 0, .int .i64 0, .int .i64 0, .slice none 0 0]) ∧ i.size = 9 ∧ i.bytes = 88 := by
  have h : (Try.prog.info? 31).map (fun i => (i.zero, i.size, i.bytes)) = some (some (.agg #[.int .i64 0, .int .i64 0, .int .i64 0, .int .i64 0, .int .i64 0, .int .i64 0, .int .i64 0, .int .i64 0, .slice none 0 0]), 9, 88) := by kernel_rfl
  cases hx : Try.prog.info? 31 with
  | none => rw [hx] at h; simp at h
  | some i => rw [hx] at h; simp at h; exact ⟨i, rfl, h.1, h.2.1, h.2.2⟩
/-- a map's block, whatever else the world is -/
theorem own_congr {w w' : World} {b n : Nat} {D : DataW Value} (h : w.ownsMap Try.prog 29 heldR b n D) (hb : w'.heap[b]? = w.heap[b]?) : w'.ownsMap Try.prog 29 heldR b n D := by
  obtain ⟨es, clock, h1, F, h2, h3⟩ := h
  exact ⟨es, clock, hb.trans h1, F, h2, h3⟩

/-- a slice of jobs of the call's own -/
def Grp (W0 w : World) (lo : Nat) (v : Value) (G : List D_Job) : Prop :=
  ∃ xs, w.ownsRow lo 31 9 v G.length xs ∧ ∀ i d, G[i]? = some d → ∃ us, R_Job.rd W0 W0.heap.size d us ∧ ∀ j c, us[j]? = some c → xs[i * 9 + j]? = some c
theorem row_keep {w w' : World} {lo n : Nat} {v : Value} {xs : List Value} (h : w.ownsRow lo 31 9 v n xs) (hb : ∀ k, v.ownBlock = some k → w'.heap[k]? = w.heap[k]?) : w'.ownsRow lo 31 9 v n xs := by
  obtain ⟨h1, h2⟩ := h
  refine ⟨h1, ?_⟩
  rcases h2 with h2 | ⟨g, cap, cur, rfl, hlo, hg, h3⟩
  · exact .inl h2
  · exact .inr ⟨g, cap, cur, rfl, hlo, (hb g rfl).trans hg, h3⟩
theorem Grp.keep {W0 w w' : World} {lo : Nat} {v : Value} {G : List D_Job} (h : Grp W0 w lo v G) (hb : ∀ k, v.ownBlock = some k → w'.heap[k]? = w.heap[k]?) : Grp W0 w' lo v G := by
  obtain ⟨xs, h1, h2⟩ := h
  exact ⟨xs, row_keep h1 hb, h2⟩
theorem Grp.lt {W0 w : World} {lo : Nat} {v : Value} {G : List D_Job} (h : Grp W0 w lo v G) : ∀ k, v.ownBlock = some k → lo ≤ k ∧ k < w.heap.size := by
  obtain ⟨xs, h1, _⟩ := h
  exact World.ownsRow.lt h1
theorem Grp.nil (W0 w : World) (lo : Nat) : Grp W0 w lo nilS [] := ⟨[], ⟨rfl, .inl ⟨rfl, rfl⟩⟩, fun i d hd => by simp at hd⟩
theorem Grp.block {W0 w : World} {lo : Nat} {v : Value} {G : List D_Job} (h : Grp W0 w lo v G) (hG : G ≠ []) : ∃ k, v.ownBlock = some k := by
  obtain ⟨xs, ⟨_, h2⟩, _⟩ := h
  rcases h2 with ⟨_, h0⟩ | ⟨g, cap, cur, rfl, _⟩
  · exact absurd (List.eq_nil_of_length_eq_zero h0) hG
  · exact ⟨g, rfl⟩
/-- what such a slice shows -/
theorem Grp.rd {W0 w : World} {lo : Nat} {v : Value} {G : List D_Job} (h : Grp W0 w lo v G) (hb : Below W0.heap.size W0 w) : ∃ a cap, v = .slice a G.length cap ∧ RdSl R_Job w w.heap.size G a cap := by
  obtain ⟨xs, ⟨hx, h2⟩, hel⟩ := h
  rcases h2 with ⟨rfl, h0⟩ | ⟨g, cap, cur, rfl, hlo, hg, hn, hm, hc, ht⟩
  · have : G = [] := List.eq_nil_of_length_eq_zero h0
    subst this
    exact ⟨none, 0, rfl, Nat.le_refl _, Nat.zero_le _, fun h => absurd h (Nat.lt_irrefl _)⟩
  · have hgl : g < w.heap.size := (Array.getElem?_eq_some_iff.1 hg).1
    refine ⟨_, cap, rfl, hn, hm, fun _ => ⟨g, 0, rfl, hgl, fun i d hd => ?_⟩⟩
    obtain ⟨us, hr, hu⟩ := hel i d hd
    refine ⟨us, fun j c hj => ?_, R_Job_ok.rd_more (R_Job_ok.rd_below hr hb) hb.size⟩
    have h1 := hu j c hj
    rw [← ht] at h1
    have h3 : cur.toList[i * 9 + j]? = some c := by
      rw [List.getElem?_take] at h1
      split at h1
      · exact h1
      · cases h1
    rw [Nat.zero_add, show i * R_Job.size = i * 9 from rfl]
    exact cell_of_row w g _ cur _ _ hg |>.trans (by simpa using h3)
/-- one job more -/
theorem Grp.app {W0 w : World} {lo : Nat} {v : Value} {G : List D_Job} {d : D_Job} {us : List Value} {blk : Nat} (h : Grp W0 w lo v G) (hlo : lo ≤ w.heap.size) (hG : G.length < 1000) (hr : R_Job.rd W0 W0.heap.size d us) (hrow : ∀ j c, us[j]? = some c → w.cell? ⟨blk, j, none⟩ = some c) :
    ∃ v' w', (Builtin.append_ #[38, 38] 38 #[v, .slice (some ⟨blk, 0, none⟩) 1 1]).run Try.prog w = .ok v' w' ∧ Grp W0 w' lo v' (G ++ [d]) ∧ w.grownBy w' v.ownBlock ∧ (v'.ownBlock = v.ownBlock ∨ v'.ownBlock = some w.heap.size) := by
  obtain ⟨i, hi, hz, hs, hby⟩ := m_infoJ
  obtain ⟨xs, hown, hel⟩ := h
  have hul := R_Job_ok.rd_len hr
  have h9 : us.length = 9 := hul
  obtain ⟨v', w', hrun, hown', hg, _, hat⟩ := run_append_own_at (P := Try.prog) w lo 38 38 31 i _ 9 88 Try.underlying38 hi hz hs hby rfl (by omega) v G.length xs hown ⟨blk, 0, none⟩ 1 1 us (by rw [h9])
    (fun j u hj => by
      have hadd : (⟨blk, 0, none⟩ : Addr).add j = ⟨blk, j, none⟩ := by unfold Addr.add; split <;> simp_all
      rw [hadd]
      exact hrow j u hj) (R_Job_ok.one hr) (by unfold maxLen; omega) (by omega) hlo
  refine ⟨v', w', hrun, ⟨xs ++ us, by simpa using hown', fun k e he => ?_⟩, hg, hat⟩
  have hxl : xs.length = G.length * 9 := hown.1
  by_cases hk : k < G.length
  · rw [List.getElem?_append_left hk] at he
    obtain ⟨vs, h1, h2⟩ := hel k e he
    refine ⟨vs, h1, fun j c hj => ?_⟩
    have h3 := h2 j c hj
    rw [List.getElem?_append_left (List.getElem?_eq_some_iff.1 h3).1]
    exact h3
  · rw [List.getElem?_append_right (by omega)] at he
    have hk2 : k = G.length := by
      have := (List.getElem?_eq_some_iff.1 he).1
      simp at this
      omega
    subst hk2
    simp at he
    subst he
    refine ⟨us, hr, fun j c hj => ?_⟩
    rw [List.getElem?_append_right (by omega), hxl, Nat.add_sub_cancel_left]
    exact hj

/-- the map of the jobs seen -/
structure GR (W0 w : World) (B n : Nat) (D : DataW Value) (V : Int → Int → Value) (G : Int → Int → List D_Job) : Prop where
  own : w.ownsMap Try.prog 29 heldR B n D
  base : W0.heap.size ≤ B
  at_ : ∀ l s, Wf l → Wf s → D.atKey (K l s) (.held nilS) = .held (V l s)
  grp : ∀ l s, Wf l → Wf s → Grp W0 w (B + 1) (V l s) (G l s)
  has : ∀ l s, Wf l → Wf s → (Maps.has D (K l s) = true ↔ G l s ≠ [])
  apart : ∀ l s m t, Wf l → Wf s → Wf m → Wf t → (l ≠ m ∨ s ≠ t) → ∀ k, (V l s).ownBlock = some k → (V m t).ownBlock ≠ some k
theorem GR.lt {W0 w : World} {B n : Nat} {D : DataW Value} {V : Int → Int → Value} {G : Int → Int → List D_Job} (h : GR W0 w B n D V G) : B < w.heap.size := h.own.lt
theorem GR.new (W0 w : World) (h : Below W0.heap.size W0 w) : GR W0 (w.alloc (.map #[] 0)) w.heap.size 0 (.map []) (fun _ _ => nilS) (fun _ _ => []) where
  own := World.ownsMap_made w _ _ _
  base := h.size
  at_ l s _ _ := rfl
  grp l s _ _ := Grp.nil _ _ _
  has l s _ _ := by simp [Maps.has]
  apart l s m t _ _ _ _ _ k hk := by cases hk
theorem GR.keep {W0 w w' : World} {B n : Nat} {D : DataW Value} {V : Int → Int → Value} {G : Int → Int → List D_Job} (h : GR W0 w B n D V G) (hb : Below w.heap.size w w') : GR W0 w' B n D V G where
  own := own_congr h.own (hb.block B h.lt)
  base := h.base
  at_ := h.at_
  grp l s hl hs := (h.grp l s hl hs).keep fun k hk => hb.block k ((h.grp l s hl hs).lt k hk).2
  has := h.has
  apart := h.apart
/-- one job more -/
theorem GR.step {W0 w wA : World} {B n : Nat} {D : DataW Value} {V : Int → Int → Value} {G : Int → Int → List D_Job} (h : GR W0 w B n D V G) (hA : Below w.heap.size w wA) (hn : n < 1000) {d : D_Job} {us : List Value} {l0 s0 : Int} {blk : Nat}
    (hl0 : Wf l0) (hs0 : Wf s0) (hG : (G l0 s0).length < 1000) (hr : R_Job.rd W0 W0.heap.size d us) (hblk : B < blk) (hrow : ∀ j c, us[j]? = some c → wA.cell? ⟨blk, j, none⟩ = some c) :
    ∃ v0 st w1 v' w2 w3, (Instr.mapEntry 58 (.map (some B)) (labV l0 s0)).run Try.prog wA = .ok (.tuple #[v0, goInt st]) w1 ∧
      (Builtin.append_ #[38, 38] 38 #[v0, .slice (some ⟨blk, 0, none⟩) 1 1]).run Try.prog w1 = .ok v' w2 ∧
      (Instr.entryStore 58 (.map (some B)) (goInt st) v').run Try.prog w2 = .ok () w3 ∧
      GR W0 w3 B (n + 1) (D.put (K l0 s0) (.held v')) (fun l s => if l = l0 ∧ s = s0 then v' else V l s) (fun l s => if l = l0 ∧ s = s0 then G l s ++ [d] else G l s) ∧ Below W0.heap.size wA w3 := by
  have hkey := key_of hl0 hs0
  have hA' := h.keep hA
  obtain ⟨es, clock, hbk, F, hes, hD⟩ := hA'.own
  obtain ⟨v0, st, es1, clock1, hrun1, hv0, hstore⟩ := entry_then_store (P := Try.prog) m_law Try.underlying58 m_zero hbk F hkey
  -- the element that came is the slice at the key
  have hv : v0 = V l0 s0 := by
    have hat := hA'.at_ l0 s0 hl0 hs0
    rcases Maps.fit_look false m_keyed Try.underlying58 (m_zero wA) hbk F hkey with ⟨_, hno, hz⟩ | ⟨e0, y, he0, hk0, _, hR, hz, _⟩
    · rcases hv0 with ⟨e1, he1, hk1, _⟩ | ⟨_, rfl⟩
      · exact absurd hk1 (hno e1 he1)
      · rw [hD, hz] at hat
        exact DataW.held.inj hat
    · rcases hv0 with ⟨e1, he1, hk1, rfl⟩ | ⟨hno, _⟩
      · have hee := entry_eq_of_key ((MapKept.stamped_iff es clock).1 F.stamped).2.2 he0 he1 (hk0.trans hk1.symm)
        subst hee
        rw [hD, hz] at hat
        simp only [heldR, Option.some.injEq] at hR
        subst hR
        exact DataW.held.inj hat
      · exact absurd hk0 (hno e0 he0)
  subst hv
  -- the world behind the entry
  have hset := heap_setBlock_same (w := wA) hbk (.map es1 clock1)
  have hoth : ∀ k, k ≠ B → (setBlock wA B (.map es1 clock1)).heap[k]? = wA.heap[k]? := fun k hk => heap_setBlock_other hbk _ hk
  have hsz1 : (setBlock wA B (.map es1 clock1)).heap.size = wA.heap.size := by simp [setBlock]
  have hg0 := hA'.grp l0 s0 hl0 hs0
  have hown0 : ∀ k, (V l0 s0).ownBlock = some k → B + 1 ≤ k ∧ k < wA.heap.size := hg0.lt
  have hg1 : Grp W0 (setBlock wA B (.map es1 clock1)) (B + 1) (V l0 s0) (G l0 s0) := hg0.keep fun k hk => hoth k (by have := (hown0 k hk).1; omega)
  have hBs : B + 1 ≤ wA.heap.size := hA'.lt
  obtain ⟨v', w2, hrun2, hgrp, hgrow, hloc⟩ := hg1.app (blk := blk) (by rw [hsz1]; exact hBs) hG hr (fun j c hj => (World.cell?_of_block (a := ⟨blk, j, none⟩) (hoth blk (by omega))).trans (hrow j c hj))
  have hB2 : w2.heap[B]? = some (.map es1 clock1) := (hgrow.block B (by rw [hsz1]; exact hA'.lt) (fun e => by have := (hown0 B e.symm).1; omega)).trans hset
  obtain ⟨es', clock', hrun3, hupd⟩ := hstore w2 v' hB2
  obtain ⟨wU, hrunU, hownU, _⟩ := hA'.own.update m_keyed Try.underlying58 (by unfold maxLen; omega) hkey (show heldR v' = some (.held v', []) from rfl)
  rw [hupd] at hrunU
  have hU : wU = setBlock wA B (.map es' clock') := by cases hrunU; rfl
  have hw3 : (setBlock w2 B (.map es' clock')).heap[B]? = wU.heap[B]? := by rw [hU, heap_setBlock_same hB2, heap_setBlock_same hbk]
  have hsz2 : wA.heap.size ≤ w2.heap.size := by have := hgrow.size; rw [hsz1] at this; exact this
  have hoth3 : ∀ k, k ≠ B → (setBlock w2 B (.map es' clock')).heap[k]? = w2.heap[k]? := fun k hk => heap_setBlock_other hB2 _ hk
  -- what the blocks are that have turned
  have hkeep : ∀ k, k < wA.heap.size → k ≠ B → (V l0 s0).ownBlock ≠ some k → (setBlock w2 B (.map es' clock')).heap[k]? = wA.heap[k]? := fun k hk hkB hne =>
    (hoth3 k hkB).trans ((hgrow.block k (by rw [hsz1]; exact hk) (fun e => hne e.symm)).trans (hoth k hkB))
  have hvb : ∀ k, v'.ownBlock = some k → B + 1 ≤ k := fun k hk => (hgrp.lt k hk).1
  refine ⟨_, st, _, v', w2, _, hrun1, hrun2, hrun3, ⟨own_congr hownU hw3, h.base, fun l s hl hs => ?_, fun l s hl hs => ?_, fun l s hl hs => ?_, fun l s m t hl hs hm ht hne k hk => ?_⟩, ?_⟩
  · split
    · rename_i he
      obtain ⟨rfl, rfl⟩ := he
      exact Maps.atKey_put_same hA'.own.isMap (key_lit hl0 hs0) _ _
    · rename_i he
      rw [Maps.atKey_put_other (fun e => he (key_inj hl hs hl0 hs0 e))]
      exact h.at_ l s hl hs
  · split
    · rename_i he
      obtain ⟨rfl, rfl⟩ := he
      exact hgrp.keep fun k hk => hoth3 k (by have := hvb k hk; omega)
    · rename_i he
      have hg := hA'.grp l s hl hs
      refine hg.keep fun k hk => hkeep k (hg.lt k hk).2 (by have := (hg.lt k hk).1; omega) ?_
      exact fun e => hA'.apart l0 s0 l s hl0 hs0 hl hs (by
        by_cases h1 : l0 = l
        · right
          intro h2
          exact he ⟨h1.symm, h2.symm⟩
        · exact .inl h1) k e hk
  · split
    · rename_i he
      obtain ⟨rfl, rfl⟩ := he
      rw [Maps.has_put_same hA'.own.isMap (key_lit hl0 hs0)]
      simp
    · rename_i he
      rw [Maps.has_put_other (fun e => he (key_inj hl hs hl0 hs0 e))]
      exact h.has l s hl hs
  · split at hk
    · rename_i he
      obtain ⟨rfl, rfl⟩ := he
      rw [if_neg (fun e => by rcases hne with h1 | h1; exact h1 e.1.symm; exact h1 e.2.symm)]
      have hg := hA'.grp m t hm ht
      rcases hloc with e | e
      · exact hA'.apart _ _ m t hl hs hm ht hne k (e ▸ hk)
      · intro e2
        have h1 := (hg.lt k e2).2
        rw [hk] at e
        cases e
        rw [hsz1] at h1
        omega
    · rename_i he
      have hg := hA'.grp l s hl hs
      split
      · rename_i he2
        obtain ⟨rfl, rfl⟩ := he2
        rcases hloc with e | e
        · rw [e]
          exact hA'.apart l s _ _ hl hs hm ht hne k hk
        · intro e2
          have h1 := (hg.lt k hk).2
          rw [e] at e2
          cases e2
          rw [hsz1] at h1
          omega
      · exact h.apart l s m t hl hs hm ht hne k hk
  · refine ⟨?_, ?_, ?_, ?_, fun k hk => ?_⟩
    · exact hgrow.os
    · exact hgrow.tape
    · exact hgrow.output
    · have : (setBlock w2 B (.map es' clock')).heap.size = w2.heap.size := by simp [setBlock]
      omega
    · have hb := h.base
      have hBA := hA'.lt
      exact hkeep k (by omega) (by omega) (fun e => by have := (hown0 k e).1; omega)
end Go.Proofs.Ytfmgjkmlnaeagaa.RepC
