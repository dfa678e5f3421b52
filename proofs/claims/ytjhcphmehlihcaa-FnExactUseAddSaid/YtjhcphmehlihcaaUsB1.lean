/- The size of a map of accounts; owners, takes: contracts. -/
import Derived.Test.YtjhcphmehlihcaaUsH1
import Derived.Test.YtjhcphmehlihcaaLabEq
import Derived.Maps.RangeWalk
namespace Go.Proofs.Ytjhcphmehlihcaa.RepC
open Go.RowKit RowC ValC SpanC KeptC NameC SortC Go.ChangeShapes Go.Maps
set_option linter.unusedVariables false
set_option linter.unusedSimpArgs false
set_option maxRecDepth 100000

theorem key_lits {w : World} {b n : Nat} {D : DataW Value} {F : AC → Option Int} (hM : MpU w b n D F) {es : List (Lit × DataW Value)} (h : D = .map es) : ∀ p ∈ es, WideAt.IsKeyLit p.1 := by
  obtain ⟨es0, clock, _, hF, _, hD⟩ := hM.own
  rw [h] at hD
  injection hD with hD
  intro p hp
  rw [hD] at hp
  have hp2 := (WideShapes.sorted_perm _).mem_iff.1 hp
  obtain ⟨x, hx, rfl⟩ := List.mem_map.1 hp2
  obtain ⟨y, hy⟩ := hF.reads x hx
  have e : WideElems.rg Try.prog 65 elU x = y := WideElems.rg_of hy
  rw [e]
  exact a_keyed.key (WideElems.rd_key hy)
theorem has_mem {es : List (Lit × DataW Value)} (hl : ∀ p ∈ es, WideAt.IsKeyLit p.1) (kl : Lit) : Maps.has (.map es) kl = true ↔ kl ∈ es.map Prod.fst := by
  rw [Maps.has_eq, List.any_eq_true]
  constructor
  · rintro ⟨p, hp, h⟩
    by_cases e : p.1 = kl
    · exact List.mem_map.2 ⟨p, hp, e⟩
    · rw [sameKey_ne e] at h; cases h
  · intro h
    obtain ⟨p, hp, e⟩ := List.mem_map.1 h
    exact ⟨p, hp, by rw [← e]; exact WideAt.sameKey_self (hl p hp)⟩
theorem size_of {w : World} {b n : Nat} {D : DataW Value} {F : AC → Option Int} (hM : MpU w b n D F) {xs : List AC} (h : AllOf F xs) : Maps.size D = xs.length := by
  obtain ⟨es, rfl, hp⟩ := hM.own.tidy a_keyed
  have hl := key_lits hM rfl
  have n1 : (es.map Prod.fst).Nodup := by
    rw [List.nodup_iff_pairwise_ne, List.pairwise_map]
    exact hp
  have n2 : (xs.map KA).Nodup := by
    rw [List.nodup_iff_pairwise_ne, List.pairwise_map]
    have h0 := List.nodup_iff_pairwise_ne.1 h.1
    exact h0.imp_of_mem fun ha hb hne e => hne (KA_inj (h.2.1 _ ha) (h.2.1 _ hb) e)
  have hperm : (es.map Prod.fst).Perm (xs.map KA) := (List.perm_ext_iff_of_nodup n1 n2).2 fun kl => by
    rw [← has_mem hl]
    constructor
    · intro hk
      obtain ⟨a, v, ha, rfl, hv⟩ := hM.keys kl hk
      exact List.mem_map_of_mem ((h.2.2 a ha).2 (by rw [hv]; rfl))
    · intro hk
      obtain ⟨a, ha, rfl⟩ := List.mem_map.1 hk
      have hw := h.2.1 a ha
      rw [(hM.atKey hw).2]
      exact (h.2.2 a hw).1 ha
  have := hperm.length_eq
  simpa [Maps.size_eq] using this
theorem all_FU {L : List D_Use} (h : UsesR L) : AllOf (FU L) (L.map ku) := by
  have hp := usesR_keys h
  refine ⟨?_, fun a ha => ?_, fun a ha => FU_some.symm⟩
  · rw [List.nodup_iff_pairwise_ne]
    exact hp.imp fun {x y} (hlt : ltA x y) (e : x = y) => ltA_irrefl y (e ▸ hlt)
  · obtain ⟨x, hx, rfl⟩ := List.mem_map.1 ha
    exact (usesR_keyed h x hx).1
/-- how many of a list have the label l -/
def cntA (l : D_Label) (xs : List AC) : Nat := (xs.filter fun a => decide (a.1 = l)).length
theorem cntA_yes {l : D_Label} {xs : List AC} {a : AC} (h : decide (a.1 = l) = true) : cntA l (xs ++ [a]) = cntA l xs + 1 := by
  unfold cntA
  rw [List.filter_append, List.length_append]
  simp only [List.filter_cons, h, if_true, List.filter_nil, List.length_singleton]
theorem cntA_no {l : D_Label} {xs : List AC} {a : AC} (h : decide (a.1 = l) = false) : cntA l (xs ++ [a]) = cntA l xs := by
  unfold cntA
  rw [List.filter_append, List.length_append]
  simp only [List.filter_cons, h, Bool.false_eq_true, if_false, List.filter_nil, List.length_nil, Nat.add_zero]
theorem cntA_le (l : D_Label) (xs : List AC) : cntA l xs ≤ xs.length := List.length_filter_le _ _
theorem cntA_perm {l : D_Label} {F : AC → Option Int} {xs ys : List AC} (h : AllOf F xs) (k : AllOf F ys) : cntA l xs = cntA l ys := by
  have hp : xs.Perm ys := (List.perm_ext_iff_of_nodup h.1 k.1).2 fun a => by
    constructor
    · intro ha; have hw := h.2.1 a ha; exact (k.2.2 a hw).2 ((h.2.2 a hw).1 ha)
    · intro ha; have hw := k.2.1 a ha; exact (h.2.2 a hw).2 ((k.2.2 a hw).1 ha)
  exact (hp.filter _).length_eq
set_option maxRecDepth 100000 in
set_option maxHeartbeats 3200000 in
theorem owners_impl (b nn : Nat) (hnn : nn ≤ 1000) (D : DataW Value) (F : AC → Option Int) (W : World) (hM : MpU W b nn D F) {ys : List AC} (hA : AllOf F ys) (l0 l1 : Int) :
    Calls Try.prog 65 #[.map (some b), .agg #[.int .i64 l0, .int .i64 l1]] W fun e w' => e = .returned (.int .i64 (cntA (l0, l1) ys)) ∧ Below W.heap.size W w' := by
  have HA := Lib.hid hA
  obtain ⟨w1, hw1⟩ : ∃ w, w = W.alloc (.cells #[.int .i64 l0, .int .i64 l1] 25) := ⟨_, rfl⟩
  have hbA : Below W.heap.size W w1 := by rw [hw1]; exact (Below.refl _ _).alloc (Nat.le_refl _) _
  have HM := Lib.hid (hM.call hbA)
  have hsz := HM.out.own.size_le
  have hown := HM.out.own
  have HP := Lib.hid (show Blk w1 W.heap.size 25 #[.int .i64 l0, .int .i64 l1] from by rw [hw1]; exact Blk.new _ _ _)
  have HB := Lib.hid hbA
  have hz1 : W.heap.size < w1.heap.size := HP.out.lt
  clear hM hA hbA
  have HM := HM
  go_enter Try.func65, Try.ntmps65
  subst hw1
  go_wp2_with (first | (at_range; refine wpList_range_own _ rfl _ 62 rfl 65 2 a_keyed Try.underlying62 _ b nn _ rfl hown ?_; intro w0 hrg0 hg0 hs0) | go_in)
  go_frame
  obtain ⟨w1, hw1⟩ : ∃ w, w = W.alloc (.cells #[.int .i64 l0, .int .i64 l1] 25) := ⟨_, rfl⟩
  have HSW := Lib.hid (show w1.heap.size = W.heap.size + 1 from by rw [hw1]; simp)
  rw [← hw1] at HM HP HB hz1 hown hrg0 hg0 hs0
  try rw [← hw1]
  clear hw1
  go_loopw [5] (fun i wr => ∃ (left : Lit → Bool) (cnt : Nat) (xs : List AC), wr.ranges Try.prog 65 elU b w1.heap.size nn D left cnt ∧ xs.length + cnt ≤ nn ∧ KeysM D left xs ∧ i = .int .i64 (cntA (l0, l1) xs) ∧ Below w1.heap.size w1 wr)
    (fun _ wr => wr.rangeLeft b w1.heap.size)
  case atStart => exact ⟨_, _, [], hrg0, by simpa using hsz, KeysM.start D, rfl, ⟨hg0.os, hg0.tape, hg0.output, hg0.size, fun i hi => hg0.block i hi (by simp)⟩⟩
  case round =>
    obtain ⟨left, cnt, xs, hrg, hcs, hC, rfl, hB⟩ := hrel
    go_wp2_with (first | (at_next; refine wpList_next_ranges _ rfl _ rfl 65 a_keyed elU (id : Value → Value) (id : Value → Value) (fun key kl hk => ⟨key, rfl⟩) (fun v _ _ => ⟨v, rfl⟩) b w1.heap.size nn _ _ _ rfl hrg ?_ ?_) | go_in)
    · intro hc0 hl0
      have HE := Lib.hid (cntA_perm (l := (l0, l1)) (hC.all HM.out hl0) HA.out)
      have HBB := Lib.hid (HB.out.trans (hB.mono (Nat.le_of_lt hz1)))
      clear hB
      go_wp2
      go_ret
      exact ⟨by rw [HE.out]; rfl, HBB.out⟩
    · intro x c kl yd yp w2 cnt2 hkey hlk hv hat hrg2 hlt hg2 hs2 hen
      have hkey : keyOf Try.prog 65 x = some kl := hkey
      have hen : (Instr.entry (.pointer (some ⟨w1.heap.size, 0, none⟩))).run Try.prog w2 = .ok (.tuple #[x, c]) w2 := hen
      have hhas : Maps.has D kl = true := has_true_of_atKey hat
      obtain ⟨⟨⟨x0, x1⟩, x2⟩, av, ha, hka, _⟩ := HM.out.keys kl hhas
      subst hka
      obtain rfl : x = .agg #[.int .i64 x0, .int .i64 x1, .string x2] := a_keyed.inj hkey (keyA ha)
      have HC2 := Lib.hid (hC.step ha hlk hhas)
      have HRG := Lib.hid (hrg2.alloc (.cells #[.int .i64 x0, .int .i64 x1, .string x2] 65))
      have hb2 : Below w1.heap.size w1 w2 := hB.trans (grown_below2 hg2 (Nat.le_refl _) hB.size)
      have HB2 := Lib.hid (hb2.trans (((Below.refl w2.heap.size w2).alloc (Nat.le_refl _) (.cells #[.int .i64 x0, .int .i64 x1, .string x2] 65)).mono hb2.size))
      have HP2 := Lib.hid (HP.out.call HB2.out)
      have q0 := HP2.out.at_ 0 rfl
      have q1 := HP2.out.at_ 1 rfl
      obtain ⟨z, hz⟩ : ∃ z, decide (((x0, x1) : Int × Int) = (l0, l1)) = z := ⟨_, rfl⟩
      have hq := eql_lab x0 x1 l0 l1 z hz
      have HLT := Lib.hid (show cnt2 < wr.rangeLeft b w1.heap.size from by rw [hrg.left_eq]; exact hlt)
      have HLE := Lib.hid (show (xs ++ [((x0, x1), x2)]).length + cnt2 ≤ nn from by simp; omega)
      have hcl := cntA_le (l0, l1) xs
      have hi0 : (0 : Int) ≤ (cntA (l0, l1) xs : Int) := Int.natCast_nonneg _
      have hi1 : (cntA (l0, l1) xs : Int) ≤ 1000 := by omega
      clear hkey hhas hrg2 hg2 hs2 hlt hb2 hrg hC hB
      cases z with
      | false =>
        have HN := Lib.hid (cntA_no (xs := xs) (a := ((x0, x1), x2)) hz)
        clear hz
        go_wp2
        go_roundw
        case rel => exact ⟨_, _, _, HRG.out, HLE.out, HC2.out, by rw [HN.out], HB2.out⟩
        case measure => rw [HRG.out.left_eq]; exact HLT.out
      | true =>
        have HN := Lib.hid (cntA_yes (xs := xs) (a := ((x0, x1), x2)) hz)
        clear hz
        go_wp2
        go_roundw
        case rel => exact ⟨_, _, _, HRG.out, HLE.out, HC2.out, by rw [HN.out]; go_num, HB2.out⟩
        case measure => rw [HRG.out.left_eq]; exact HLT.out
end Go.Proofs.Ytjhcphmehlihcaa.RepC
