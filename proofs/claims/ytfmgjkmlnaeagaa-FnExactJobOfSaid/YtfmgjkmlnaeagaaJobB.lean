/- Jobs by label, in the program: contracts. -/
import Derived.Test.YtfmgjkmlnaeagaaJobG
namespace Go.Proofs.Ytfmgjkmlnaeagaa.RepC
open Go.RowKit RowC ValC SpanC KeptC Go.Maps
set_option linter.unusedVariables false
set_option linter.unusedSimpArgs false

section
variable {P : Program} {ops : Array Oper} {rest : List Oper} {o : Oper} {a : Act} {W W' : World} {Q : Exit → Act → World → Prop}
theorem wpList_mapEntry (hg : o.guard = none) (m x : Operand) (t : TypeId) (hop : o.op = Op.mapEntry t m x) {mv kv r : Value} (hm : a.eval m = mv) (hx : a.eval x = kv) (hr : (Instr.mapEntry t mv kv).run P W = .ok r W')
    (h : wpList P ops Q rest (a.put o.dst r) W') : wpList P ops Q (o :: rest) a W := by
  refine wpList_plain hg fun K' hK' => ?_
  unfold Oper.wp
  simp [execOp, hop, hm, hx, hr, Result.andThen]
  exact hK' _ _ h
theorem wpList_entryStore (hg : o.guard = none) (m s x : Operand) (t : TypeId) (hop : o.op = Op.entryStore t m s x) {mv sv xv : Value} (hm : a.eval m = mv) (hs : a.eval s = sv) (hx : a.eval x = xv) (hr : (Instr.entryStore t mv sv xv).run P W = .ok () W')
    (h : wpList P ops Q rest (a.put o.dst undef) W') : wpList P ops Q (o :: rest) a W := by
  refine wpList_plain hg fun K' hK' => ?_
  unfold Oper.wp
  simp [execOp, hop, hm, hs, hx, hr, Result.andThen]
  exact hK' _ _ h
end
theorem filt_step {L : List D_Job} {k : Nat} {d : D_Job} {x0 x1 : Int} (h : L[k]? = some d) (hd : d.1 = (x0, x1)) :
    (fun l s => if l = x0 ∧ s = x1 then (L.take k).filter (ofL l s) ++ [d] else (L.take k).filter (ofL l s)) = fun l s => (L.take (k + 1)).filter (ofL l s) := by
  funext l s
  rw [take_at h, List.filter_append]
  have e : ofL l s d = (x0 == l && x1 == s) := by unfold ofL; rw [hd]
  by_cases h1 : l = x0 ∧ s = x1
  · obtain ⟨rfl, rfl⟩ := h1
    simp [List.filter, e]
  · have e2 : ofL l s d = false := by
      rw [e]
      simp only [Bool.and_eq_false_imp, beq_iff_eq, beq_eq_false_iff_ne]
      intro h2 h3
      exact h1 ⟨h2.symm, h3.symm⟩
    rw [if_neg h1]
    simp [List.filter, e2]
/-- the map of all jobs -/
def MapC (L : List D_Job) (w : World) (e : Ending) (w' : World) : Prop :=
  ∃ B D V, e = .returned (.map (some B)) ∧ GR w w' B L.length D V (fun l s => L.filter (ofL l s)) ∧ Below w.heap.size w w'
theorem mapC_elim {L : List D_Job} {w : World} {e : Ending} {w' : World} (h : MapC L w e w') : ∃ B D V, e = .returned (.map (some B)) ∧ GR w w' B L.length D V (fun l s => L.filter (ofL l s)) ∧ Below w.heap.size w w' := h

set_option maxRecDepth 100000 in
set_option maxHeartbeats 3200000 in
theorem by_impl {L : List D_Job} {a : Option Addr} {cap : Nat} {W : World} (hL : L.length ≤ 96) (hwf : ∀ (i : Nat) (d : D_Job), L[i]? = some d → Wf d.1.1 ∧ Wf d.1.2) (h : RdSl R_Job W W.heap.size L a cap) :
    Calls Try.prog 38 #[.slice a L.length cap] W (MapC L W) := by
  have H := Lib.hid h
  have HW := Lib.hid hwf
  clear h hwf
  have HG0 := Lib.hid (GR.new W W (Below.refl _ _))
  have HB0 := Lib.hid (show Below W.heap.size W (W.alloc (.map #[] 0)) from (Below.refl _ _).alloc (Nat.le_refl _) _)
  have hmk : ∀ u : World, (Instr.makeMap 58 none).run Try.prog u = .ok (.map (some u.heap.size)) (u.alloc (.map #[] 0)) := fun u => run_makeMap _ u
  go_enter Try.func38, Try.ntmps38
  go_wp2
  go_loopw [9] (fun i wr => ∃ k : Nat, k ≤ L.length ∧ i = .int .i64 k ∧ (∃ D V, Hid (GR W wr W.heap.size k D V (fun l s => (L.take k).filter (ofL l s)))) ∧ Below W.heap.size W wr) (fun i _ => L.length - (intOf i).toNat)
  case atStart => exact ⟨0, Nat.zero_le _, rfl, ⟨_, _, HG0⟩, HB0.out⟩
  case round =>
    obtain ⟨k, hk, rfl, ⟨D, V, HG⟩, hB⟩ := hrel
    have HB := Lib.hid hB
    have hsz := hB.size
    by_cases hlt : k < L.length
    · obtain ⟨⟨⟨x0, x1⟩, x2, x3, x4, x5, x6, x7, L0⟩, hx⟩ := el_some hlt
      have HX := Lib.hid hx
      obtain ⟨g, o, us, rfl, hg, hu, hr⟩ := H.out.at_ hx
      have HR := Lib.hid hr
      obtain ⟨a0, c0, rfl, k_L0⟩ := rd_Job hr
      have e0 : wr.cell? ⟨g, o + k * 9, none⟩ = some (.int .i64 x0) := (hB.cell (p := ⟨g, o + k * 9, none⟩) hg).trans (by simpa [sizeq_JobS, Nat.add_assoc] using hu 0 _ rfl)
      have e1 : wr.cell? ⟨g, o + k * 9 + 1, none⟩ = some (.int .i64 x1) := (hB.cell (p := ⟨g, o + k * 9 + 1, none⟩) hg).trans (by simpa [sizeq_JobS, Nat.add_assoc] using hu 1 _ rfl)
      have e2 : wr.cell? ⟨g, o + k * 9 + 2, none⟩ = some (.int .i64 x2) := (hB.cell (p := ⟨g, o + k * 9 + 2, none⟩) hg).trans (by simpa [sizeq_JobS, Nat.add_assoc] using hu 2 _ rfl)
      have e3 : wr.cell? ⟨g, o + k * 9 + 3, none⟩ = some (.int .i64 x3) := (hB.cell (p := ⟨g, o + k * 9 + 3, none⟩) hg).trans (by simpa [sizeq_JobS, Nat.add_assoc] using hu 3 _ rfl)
      have e4 : wr.cell? ⟨g, o + k * 9 + 4, none⟩ = some (.int .i64 x4) := (hB.cell (p := ⟨g, o + k * 9 + 4, none⟩) hg).trans (by simpa [sizeq_JobS, Nat.add_assoc] using hu 4 _ rfl)
      have e5 : wr.cell? ⟨g, o + k * 9 + 5, none⟩ = some (.int .i64 x5) := (hB.cell (p := ⟨g, o + k * 9 + 5, none⟩) hg).trans (by simpa [sizeq_JobS, Nat.add_assoc] using hu 5 _ rfl)
      have e6 : wr.cell? ⟨g, o + k * 9 + 6, none⟩ = some (.int .i64 x6) := (hB.cell (p := ⟨g, o + k * 9 + 6, none⟩) hg).trans (by simpa [sizeq_JobS, Nat.add_assoc] using hu 6 _ rfl)
      have e7 : wr.cell? ⟨g, o + k * 9 + 7, none⟩ = some (.int .i64 x7) := (hB.cell (p := ⟨g, o + k * 9 + 7, none⟩) hg).trans (by simpa [sizeq_JobS, Nat.add_assoc] using hu 7 _ rfl)
      have e8 : wr.cell? ⟨g, o + k * 9 + 8, none⟩ = some (.slice a0 L0.length c0) := (hB.cell (p := ⟨g, o + k * 9 + 8, none⟩) hg).trans (by simpa [sizeq_JobS, Nat.add_assoc] using hu 8 _ rfl)
      have hi0 : (0 : Int) ≤ (k : Int) := Int.natCast_nonneg _
      have hi1 : (k : Int) < (L.length : Int) := by omega
      have hA : Below wr.heap.size wr ((wr.alloc (.cells #[.int .i64 x0, .int .i64 x1, .int .i64 x2, .int .i64 x3, .int .i64 x4, .int .i64 x5, .int .i64 x6, .int .i64 x7, .slice a0 L0.length c0] 31)).alloc (.cells #[.int .i64 x0, .int .i64 x1, .int .i64 x2, .int .i64 x3, .int .i64 x4, .int .i64 x5, .int .i64 x6, .int .i64 x7, .slice a0 L0.length c0] 31)) := ((Below.refl _ _).alloc (Nat.le_refl _) _).alloc (by simp) _
      have hrow := Blk.new (wr.alloc (.cells #[.int .i64 x0, .int .i64 x1, .int .i64 x2, .int .i64 x3, .int .i64 x4, .int .i64 x5, .int .i64 x6, .int .i64 x7, .slice a0 L0.length c0] 31)) 31 #[.int .i64 x0, .int .i64 x1, .int .i64 x2, .int .i64 x3, .int .i64 x4, .int .i64 x5, .int .i64 x6, .int .i64 x7, .slice a0 L0.length c0]
      simp only [World.size_alloc] at hrow
      have hBl := HG.out.lt
      have hw := HW.out k _ HX.out
      have hGl : ((L.take k).filter (ofL x0 x1)).length < 1000 := Nat.lt_of_le_of_lt (List.length_filter_le _ _) (by rw [List.length_take]; omega)
      obtain ⟨v0, st, w1, v', w2, w3, hr1, hr2, hr3, hG3, hb3⟩ := HG.out.step hA (by omega) hw.1 hw.2 hGl HR.out (by omega) (fun j c hj => hrow.at_ j (by simpa using hj))
      rw [filt_step HX.out rfl] at hG3
      have HG3 := Lib.hid hG3
      have HB3 := Lib.hid ((hB.trans (hA.mono hsz)).trans hb3)
      simp only [labV] at hr1
      have HR1 := Lib.hid hr1
      have HR2 := Lib.hid hr2
      have HR3 := Lib.hid hr3
      clear hB hx hu hr k_L0 hA hrow hw hGl hr1 hr2 hr3 hG3 hb3 HR hmk
      go_wp2_with (first
        | (refine wpList_mapEntry rfl (.tmp 13) (.tmp 15) 58 rfl rfl rfl HR1.out ?_)
        | (at_builtin; refine wpList_app rfl (.tmp 16) (.tmp 18) 38 rfl rfl rfl HR2.out ?_)
        | (refine wpList_entryStore rfl (.tmp 13) (.tmp 21) (.tmp 20) 58 rfl rfl rfl rfl HR3.out ?_)
        | go_in)
      go_roundw
      case rel => exact ⟨k + 1, by omega, by go_num, ⟨_, _, HG3⟩, HB3.out⟩
      case measure => simp [intOf]; omega
    · have HE := Lib.hid (show GR W wr W.heap.size L.length D V (fun l s => L.filter (ofL l s)) from by have h := HG.out; rw [List.take_of_length_le (by omega), show k = L.length from by omega] at h; exact h)
      clear hB
      go_wp2
      go_ret
      exact ⟨_, _, _, rfl, HE.out, HB.out⟩

def CountUp (G : List D_Job) : Prop := ∀ (i : Nat) d, G[i]? = some d → d.2.1 = (i : Int) + 1

set_option maxRecDepth 100000 in
set_option maxHeartbeats 3200000 in
theorem count_impl {L : List D_Job} {a : Option Addr} {cap : Nat} {W : World} (h : RdSl R_Job W W.heap.size L a cap) :
    Calls Try.prog 49 #[.slice a L.length cap] W (ResB (CountUp L) W) := by
  have hn : L.length ≤ 9223372036854775807 := by have h1 := h.1; have h2 := h.2.1; unfold maxLen at h2; omega
  have H := Lib.hid h
  clear h
  go_enter Try.func49, Try.ntmps49
  go_wp2
  go_loopw [7] (fun i wr => ∃ k : Nat, k ≤ L.length ∧ i = .int .i64 k ∧ Hid (∀ j d, j < k → L[j]? = some d → d.2.1 = (j : Int) + 1) ∧ Below W.heap.size W wr) (fun i _ => L.length - (intOf i).toNat)
  case atStart => exact ⟨0, Nat.zero_le _, rfl, Lib.hid fun j d h => absurd h (Nat.not_lt_zero _), Below.refl _ _⟩
  case round =>
    obtain ⟨k, hk, rfl, HA, hB⟩ := hrel
    have HB := Lib.hid hB
    have hsz := hB.size
    by_cases hlt : k < L.length
    · obtain ⟨⟨⟨x0, x1⟩, x2, x3, x4, x5, x6, x7, L0⟩, hx⟩ := el_some hlt
      have HX := Lib.hid hx
      obtain ⟨g, o, us, rfl, hg, hu, hr⟩ := (H.out.below R_Job_ok hB).at_ hx
      obtain ⟨a0, c0, rfl, k_L0⟩ := rd_Job hr
      have e0 : wr.cell? ⟨g, o + k * 9, none⟩ = some (.int .i64 x0) := by simpa [sizeq_JobS, Nat.add_assoc] using hu 0 _ rfl
      have e1 : wr.cell? ⟨g, o + k * 9 + 1, none⟩ = some (.int .i64 x1) := by simpa [sizeq_JobS, Nat.add_assoc] using hu 1 _ rfl
      have e2 : wr.cell? ⟨g, o + k * 9 + 2, none⟩ = some (.int .i64 x2) := by simpa [sizeq_JobS, Nat.add_assoc] using hu 2 _ rfl
      have e3 : wr.cell? ⟨g, o + k * 9 + 3, none⟩ = some (.int .i64 x3) := by simpa [sizeq_JobS, Nat.add_assoc] using hu 3 _ rfl
      have e4 : wr.cell? ⟨g, o + k * 9 + 4, none⟩ = some (.int .i64 x4) := by simpa [sizeq_JobS, Nat.add_assoc] using hu 4 _ rfl
      have e5 : wr.cell? ⟨g, o + k * 9 + 5, none⟩ = some (.int .i64 x5) := by simpa [sizeq_JobS, Nat.add_assoc] using hu 5 _ rfl
      have e6 : wr.cell? ⟨g, o + k * 9 + 6, none⟩ = some (.int .i64 x6) := by simpa [sizeq_JobS, Nat.add_assoc] using hu 6 _ rfl
      have e7 : wr.cell? ⟨g, o + k * 9 + 7, none⟩ = some (.int .i64 x7) := by simpa [sizeq_JobS, Nat.add_assoc] using hu 7 _ rfl
      have e8 : wr.cell? ⟨g, o + k * 9 + 8, none⟩ = some (.slice a0 L0.length c0) := by simpa [sizeq_JobS, Nat.add_assoc] using hu 8 _ rfl
      have hi0 : (0 : Int) ≤ (k : Int) := Int.natCast_nonneg _
      have hi1 : (k : Int) < (L.length : Int) := by omega
      have hjw : IntKind.i64.wrap ((k : Int) + 1) = (k : Int) + 1 := IntWalk.i64_in _ (by omega)
      have HB1 := Lib.hid (show Below W.heap.size W (wr.alloc (.cells #[.int .i64 x0, .int .i64 x1, .int .i64 x2, .int .i64 x3, .int .i64 x4, .int .i64 x5, .int .i64 x6, .int .i64 x7, .slice a0 L0.length c0] 31)) from hB.alloc hsz _)
      clear hB hx hu hr k_L0
      cases hne : (x2 != (k : Int) + 1) with
      | true =>
        have HN := Lib.hid (show ¬ CountUp L from fun h => by rw [bne_iff_ne] at hne; exact hne (h k _ HX.out))
        go_wp2
        go_ret
        exact resB_no HN.out HB1.out
      | false =>
        have HS := Lib.hid (show ∀ j d, j < k + 1 → L[j]? = some d → d.2.1 = (j : Int) + 1 from fun j d hj hd => by
          by_cases e : j = k
          · subst e
            have := HX.out
            rw [hd] at this
            obtain rfl := Option.some.inj this
            simpa using hne
          · exact HA.out j d (by omega) hd)
        go_wp2
        go_roundw
        case rel => exact ⟨k + 1, by omega, by go_num, HS, HB1.out⟩
        case measure => simp [intOf]; omega
    · have HY := Lib.hid (show CountUp L from fun j d hd => HA.out j d (by have := el_lt hd; omega) hd)
      clear hB
      go_wp2
      go_ret
      exact resB_yes HY.out HB.out
end Go.Proofs.Ytfmgjkmlnaeagaa.RepC
