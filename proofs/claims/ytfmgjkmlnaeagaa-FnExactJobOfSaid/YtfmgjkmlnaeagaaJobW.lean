/- Jobs by label: are they numbered: the loop over the map. -/
import Derived.Test.YtfmgjkmlnaeagaaJobB
namespace Go.Proofs.Ytfmgjkmlnaeagaa.RepC
open Go.RowKit RowC ValC SpanC KeptC Go.ChangeShapes Go.Maps
open Go.WideElems (Fit rd rg pl rd_key rg_of)
set_option linter.unusedVariables false
set_option linter.unusedSimpArgs false
set_option maxRecDepth 100000

theorem key_inv2 {l s : Int} {kl : Lit} (h : keyOf Try.prog 29 (labV l s) = some kl) : Wf l ∧ Wf s ∧ kl = K l s := by
  obtain ⟨m, t, he, hm, ht, rfl⟩ := key_inv h
  simp only [labV, Value.agg.injEq] at he
  have e := congrArg Array.toList he
  simp at e
  obtain ⟨rfl, rfl⟩ := e
  exact ⟨hm, ht, rfl⟩
theorem below_grown {w w' : World} (h : Below w.heap.size w w') : w.grownBy w' none := ⟨h.os, h.tape, h.output, h.size, fun i hi _ => h.block i hi⟩
theorem grown_below {w w' : World} {B b : Nat} (h : w.grownBy w' (some b)) (hB : B ≤ b) (hs : B ≤ w.heap.size) : Below B w w' := ⟨h.os, h.tape, h.output, h.size, fun i hi => h.block i (Nat.lt_of_lt_of_le hi hs) (fun e => by cases e; omega)⟩
theorem own_has {w : World} {b n : Nat} {D : DataW Value} (h : w.ownsMap Try.prog 29 heldR b n D) {kl : Lit} (hk : Maps.has D kl = true) : ∃ l s, Wf l ∧ Wf s ∧ kl = K l s := by
  obtain ⟨es, clock, _, F, _, rfl⟩ := h
  obtain ⟨p, hp, hpk⟩ := List.any_eq_true.1 hk
  obtain ⟨x, hx, rfl⟩ := List.mem_map.1 (mem_sorted.1 hp)
  obtain ⟨y, hy⟩ := F.reads x hx
  have h1 := rd_key hy
  rw [← WideAt.sameKey_eq hpk, rg_of hy]
  obtain ⟨l, s, _, hl, hs, e⟩ := key_inv h1
  exact ⟨l, s, hl, hs, e⟩
theorem rg_has {w : World} {b r n cnt : Nat} {D : DataW Value} {left : Lit → Bool} (h : w.ranges Try.prog 29 heldR b r n D left cnt) {kl : Lit} (hk : left kl = true) : Maps.has D kl = true := by
  obtain ⟨es, clock, since, seen, c0, hb, F, hs, rfl, hr, hold, hc, hl1, hl2, _⟩ := h
  obtain ⟨x, hx, rfl⟩ := hl2 kl hk
  obtain ⟨y, hy⟩ := F.reads x hx
  exact List.any_eq_true.2 ⟨rg Try.prog 29 heldR x, mem_sorted.2 (List.mem_map.2 ⟨x, hx, rfl⟩), WideAt.sameKey_self (by rw [rg_of hy]; exact m_keyed.key (rd_key hy))⟩
theorem size_zero {w : World} {b n : Nat} {D : DataW Value} (h : w.ownsMap Try.prog 29 heldR b n D) : Maps.size D = 0 ↔ ∀ kl, Maps.has D kl = false := by
  obtain ⟨es, rfl, _, hkey⟩ := h.entries m_keyed
  constructor
  · intro h0 kl
    have : es = [] := List.eq_nil_of_length_eq_zero h0
    subst this
    rfl
  · intro hall
    show es.length = 0
    cases es with
    | nil => rfl
    | cons p ps =>
      have := hall p.1
      rw [Maps.has_eq] at this
      simp [WideAt.sameKey_self (hkey p (by simp))] at this

/-- the loop that strikes whatever is numbered -/
structure NR (W0 W wr : World) (B n : Nat) (D : DataW Value) (V : Int → Int → Value) (G : Int → Int → List D_Job) (left : Lit → Bool) (cnt : Nat) (D' : DataW Value) : Prop where
  rg : wr.ranges Try.prog 29 heldR B W.heap.size n D' left cnt
  gr : W.grownBy wr (some B)
  at_ : ∀ kl, Maps.has D' kl = true → Maps.has D kl = true ∧ ∀ z, D'.atKey kl z = D.atKey kl z
  ok : ∀ l s, Wf l → Wf s → G l s ≠ [] → left (K l s) = false → (Maps.has D' (K l s) = true ↔ ¬ CountUp (G l s))
theorem NR.start {W0 W w0 : World} {B n : Nat} {D : DataW Value} {V : Int → Int → Value} {G : Int → Int → List D_Job} (h : GR W0 W B n D V G) (hr : w0.ranges Try.prog 29 heldR B W.heap.size n D (Maps.has D) (Maps.size D)) (hg : W.grownBy w0 none) : NR W0 W w0 B n D V G (Maps.has D) (Maps.size D) D :=
  ⟨hr, hg.but _, fun kl hk => ⟨hk, fun z => rfl⟩, fun l s hl hs hG hf => by have := (h.has l s hl hs).2 hG; rw [hf] at this; cases this⟩
section
variable {W0 W wr : World} {B n : Nat} {D : DataW Value} {V : Int → Int → Value} {G : Int → Int → List D_Job} {left : Lit → Bool} {cnt : Nat} {D' : DataW Value}
theorem NR.moved {w1 : World} (h : NR W0 W wr B n D V G left cnt D') (hb : Below wr.heap.size wr w1) : NR W0 W w1 B n D V G left cnt D' :=
  ⟨h.rg.kept (below_grown hb) (by simp) (by simp), h.gr.andThen (below_grown hb) (fun j hj => by cases hj), h.at_, h.ok⟩
/-- the slice that has come -/
theorem NR.came (h : NR W0 W wr B n D V G left cnt D') (hG : GR W0 W B n D V G) (hb : Below W0.heap.size W0 W) {l s : Int} {c : Value} {y : DataW Value × List MemPlace} {kl : Lit} (hk : keyOf Try.prog 29 (labV l s) = some kl) (hl : left kl = true) (hv : heldR c = some y) (hat : ∀ z, D'.atKey kl z = y.1) :
    Wf l ∧ Wf s ∧ kl = K l s ∧ G l s ≠ [] ∧ ∃ a cap, c = .slice a (G l s).length cap ∧ ∀ w1, wr.grownBy w1 (some W.heap.size) → RdSl R_Job w1 w1.heap.size (G l s) a cap := by
  obtain ⟨h1, h2, rfl⟩ := key_inv2 hk
  have hh := rg_has h.rg hl
  obtain ⟨h3, h4⟩ := h.at_ _ hh
  have hne := (hG.has l s h1 h2).1 h3
  have e1 := hG.at_ l s h1 h2
  rw [← h4, hat] at e1
  simp only [heldR, Option.some.injEq] at hv
  subst hv
  have e2 : c = V l s := DataW.held.inj e1
  subst e2
  have hg := hG.grp l s h1 h2
  have hgl := fun k hk => hg.lt k hk
  have hbl := hG.lt
  have hwr : Grp W0 wr (B + 1) (V l s) (G l s) := hg.keep fun k hk => h.gr.block k (hgl k hk).2 (fun e => by cases e; have := (hgl _ hk).1; omega)
  have hbr : Below W0.heap.size W0 wr := hb.trans (grown_below h.gr hG.base hb.size)
  obtain ⟨a, cap, e3, hr⟩ := hwr.rd hbr
  refine ⟨h1, h2, rfl, hne, a, cap, e3, fun w1 hw => ?_⟩
  have hsz := h.gr.size
  have hx : Grp W0 w1 (B + 1) (V l s) (G l s) := hwr.keep fun k hk => hw.block k (by have := (hgl k hk).2; omega) (fun e => by cases e; have := (hgl _ hk).2; omega)
  have hbw : Below W0.heap.size W0 w1 := hbr.trans (grown_below hw hb.size (by have := hb.size; omega))
  obtain ⟨a', cap', e4, hr'⟩ := hx.rd hbw
  rw [e3] at e4
  cases e4
  exact hr'
theorem NR.next {w1 : World} {cnt1 : Nat} {kl : Lit} (h : NR W0 W wr B n D V G left cnt D') (hr : w1.ranges Try.prog 29 heldR B W.heap.size n D' (fun z => left z && !z.sameKey kl) cnt1) (hg : wr.grownBy w1 (some W.heap.size)) : W.grownBy w1 (some B) :=
  h.gr.andThen hg (fun j hj => by cases hj; exact Or.inl (Nat.le_refl _))
theorem NR.stays {w1 : World} {cnt1 : Nat} {l s : Int} (h : NR W0 W wr B n D V G left cnt D') (hl : Wf l) (hs : Wf s) (hlk : left (K l s) = true) (hr : w1.ranges Try.prog 29 heldR B W.heap.size n D' (fun z => left z && !z.sameKey (K l s)) cnt1) (hg : W.grownBy w1 (some B)) (hc : ¬ CountUp (G l s)) :
    NR W0 W w1 B n D V G (fun z => left z && !z.sameKey (K l s)) cnt1 D' := by
  refine ⟨hr, hg, h.at_, fun m t hm ht hG hf => ?_⟩
  by_cases e : K m t = K l s
  · obtain ⟨rfl, rfl⟩ := key_inj hm ht hl hs e
    have := rg_has h.rg hlk
    simp [this, hc]
  · rw [Maps.sameKey_ne e] at hf
    simp at hf
    exact h.ok m t hm ht hG hf
theorem NR.drops {w1 : World} {cnt1 : Nat} {l s : Int} (h : NR W0 W wr B n D V G left cnt D') (hl : Wf l) (hs : Wf s) (hr : w1.ranges Try.prog 29 heldR B W.heap.size n (D'.del (K l s)) (fun z => left z && !z.sameKey (K l s)) cnt1) (hg : W.grownBy w1 (some B)) (hc : CountUp (G l s)) :
    NR W0 W w1 B n D V G (fun z => left z && !z.sameKey (K l s)) cnt1 (D'.del (K l s)) := by
  refine ⟨hr, hg, fun kl hk => ?_, fun m t hm ht hG hf => ?_⟩
  · have hne : kl ≠ K l s := fun e => by
      subst e
      rw [Maps.has_del_same] at hk
      cases hk
    rw [Maps.has_del_other hne] at hk
    refine ⟨(h.at_ kl hk).1, fun z => ?_⟩
    rw [Maps.atKey_del_other hne]
    exact (h.at_ kl hk).2 z
  · by_cases e : K m t = K l s
    · obtain ⟨rfl, rfl⟩ := key_inj hm ht hl hs e
      rw [Maps.has_del_same]
      simp [hc]
    · rw [Maps.sameKey_ne e] at hf
      simp at hf
      rw [Maps.has_del_other e]
      exact h.ok m t hm ht hG hf
theorem NR.done (h : NR W0 W wr B n D V G left cnt D') (hG : GR W0 W B n D V G) (hl : ∀ kl, left kl = false) : Maps.size D' = 0 ↔ ∀ l s, Wf l → Wf s → CountUp (G l s) := by
  rw [size_zero h.rg.owns]
  constructor
  · intro hall l s hl1 hs1
    by_cases hn : G l s = []
    · rw [hn]
      intro i d hd
      simp at hd
    · have := h.ok l s hl1 hs1 hn (hl _)
      rw [hall] at this
      exact Classical.byContradiction fun hc => by have := this.2 hc; cases this
  · intro hall kl
    cases hk : Maps.has D' kl with
    | false => rfl
    | true =>
      obtain ⟨l, s, h1, h2, rfl⟩ := own_has h.rg.owns hk
      have hn := (hG.has l s h1 h2).1 (h.at_ _ hk).1
      exact absurd (hall l s h1 h2) ((h.ok l s h1 h2 hn (hl _)).1 hk)
end
def NumC (G : Int → Int → List D_Job) (W0 w : World) (e : Ending) (w' : World) : Prop := ∃ q : Bool, e = .returned (.bool q) ∧ (q = true ↔ ∀ l s, Wf l → Wf s → CountUp (G l s)) ∧ Below W0.heap.size w w'
theorem numC_elim {G : Int → Int → List D_Job} {W0 w : World} {e : Ending} {w' : World} (h : NumC G W0 w e w') : ∃ q : Bool, e = .returned (.bool q) ∧ (q = true ↔ ∀ l s, Wf l → Wf s → CountUp (G l s)) ∧ Below W0.heap.size w w' := h
theorem numbered_impl {W0 W : World} {B n : Nat} {D : DataW Value} {V : Int → Int → Value} {G : Int → Int → List D_Job} (h : GR W0 W B n D V G) (hb : Below W0.heap.size W0 W) :
    Calls Try.prog 39 #[.map (some B)] W (NumC G W0 W) := by
  have HG := Lib.hid h
  have HB := Lib.hid hb
  have hown := h.own
  clear h hb
  go_enter Try.func39, Try.ntmps39
  go_wp2_with (first
    | (at_range; refine wpList_range_own _ rfl _ 58 rfl 29 38 m_keyed Try.underlying58 heldR B n D rfl hown ?_; intro w0 hrg0 hg0 hs0)
    | go_in)
  go_frame
  go_loopw [4] (fun _ wr => ∃ (left : Lit → Bool) (cnt : Nat) (D' : DataW Value), Hid (NR W0 W wr B n D V G left cnt D')) (fun _ wr => wr.rangeLeft B W.heap.size)
  case atStart => exact ⟨_, _, _, Lib.hid (NR.start HG.out hrg0 hg0)⟩
  case round =>
    obtain ⟨left, cnt, D', HN⟩ := hrel
    have hrg := HN.out.rg
    go_wp2_with (first
      | (at_next; refine wpList_next_ranges (α := Int × Int) (β := Value) _ rfl _ rfl 29 m_keyed heldR (fun p => .agg #[.int .i64 p.1, .int .i64 p.2]) (fun c => c) (fun key kl hk => by obtain ⟨l, s, rfl, _⟩ := key_inv hk; exact ⟨(l, s), rfl⟩) (fun v y _ => ⟨v, rfl⟩) B W.heap.size n D' left cnt rfl hrg ?_ ?_)
      | go_in)
    · intro _ hl0
      have HD := Lib.hid (HN.out.done HG.out hl0)
      have HBr := Lib.hid (grown_below HN.out.gr HG.out.base HB.out.size)
      clear hg0 hrg0 hs0 hown
      cases hz : ((Maps.size D' : Nat) : Int) == 0 with
      | true =>
        have HV := Lib.hid (show ∀ l s, Wf l → Wf s → CountUp (G l s) from HD.out.1 (by have := beq_iff_eq.1 hz; omega))
        go_wp2_with (first
          | (at_len; refine wpList_len_own _ rfl (.tmp 16) 58 rfl 29 38 Try.underlying58 heldR B n D' rfl hrg.owns ?_)
          | go_in)
        go_ret
        exact ⟨true, rfl, ⟨fun _ => HV.out, fun _ => rfl⟩, HBr.out⟩
      | false =>
        have HV := Lib.hid (show ¬ ∀ l s, Wf l → Wf s → CountUp (G l s) from fun h => by have := HD.out.2 h; rw [this] at hz; cases hz)
        go_wp2_with (first
          | (at_len; refine wpList_len_own _ rfl (.tmp 16) 58 rfl 29 38 Try.underlying58 heldR B n D' rfl hrg.owns ?_)
          | go_in)
        go_ret
        exact ⟨false, rfl, ⟨fun h => (by cases h), fun h => absurd h HV.out⟩, HBr.out⟩
    · intro l s c kl yd yp w1 cnt1 hkey hlk hv hat hrg1 hlt hg1 hs1 hen
      obtain ⟨hwl, hws, rfl, hne, a, cap, rfl, hrd⟩ := HN.out.came HG.out HB.out (l := l) (s := s) hkey hlk hv hat
      have HR1 := Lib.hid (hrd w1 hg1)
      have HG1 := Lib.hid (HN.out.next hrg1 hg1)
      have hA : Below w1.heap.size w1 (w1.alloc (.cells #[.int .i64 l, .int .i64 s] 29)) := (Below.refl _ _).alloc (Nat.le_refl _) _
      have HR2 := Lib.hid (rd_mv R_Job_ok HR1.out hA)
      have HBx := Lib.hid (Blk.new w1 29 #[.int .i64 l, .int .i64 s])
      have HG2 := Lib.hid (HG1.out.andThen (below_grown hA) (fun j hj => by cases hj))
      have hrg2 := hrg1.kept (below_grown hA) (by simp) (by simp)
      clear hg0 hrg0 hs0 hown hrd hat hv hg1 hs1 hrg1 HR1 HG1
      go_wp2_with fail
      refine (count_impl HR2.out).mono ?_
      intro e w3 h
      obtain ⟨q, rfl, hq, hb⟩ := resB_elim h
      have HG3 := Lib.hid (HG2.out.andThen (below_grown hb) (fun j hj => by cases hj))
      have hrg3 := hrg2.kept (below_grown hb) (by simp) (by simp)
      have HB3 := Lib.hid (HBx.out.call hb)
      have p0 := HB3.out.at_ 0 rfl
      have p1 := HB3.out.at_ 1 rfl
      clear h hb hrg2 HG2 HBx HR2 hA
      cases q with
      | false =>
        have HC := Lib.hid (show ¬ CountUp (G l s) from fun h => by have := hq.2 h; cases this)
        clear hq
        go_wp2
        go_roundw
        case rel => exact ⟨_, _, _, Lib.hid (HN.out.stays hwl hws hlk hrg3 HG3.out HC.out)⟩
        case measure => rw [hrg3.left_eq, hrg.left_eq]; exact hlt
      | true =>
        have HC := Lib.hid (hq.1 rfl)
        clear hq
        go_wp2_with (first
          | (at_delete; refine wpList_delete_ranges _ rfl (.tmp 14) (.tmp 15) 58 29 rfl 38 m_keyed Try.underlying58 heldR B W.heap.size n D' _ cnt1 rfl hrg3 _ (K l s) rfl hkey ?_; intro w4 cnt4 hrg4 hle hturn; go_frame)
          | go_in)
        rw [strike_twice] at hrg4
        have HG4 := Lib.hid (HG3.out.andThen hturn.grown (fun j hj => by cases hj; exact Or.inr rfl))
        go_roundw
        case rel => exact ⟨_, _, _, Lib.hid (HN.out.drops hwl hws hrg4 HG4.out HC.out)⟩
        case measure => rw [hrg4.left_eq, hrg.left_eq]; omega
end Go.Proofs.Ytfmgjkmlnaeagaa.RepC
