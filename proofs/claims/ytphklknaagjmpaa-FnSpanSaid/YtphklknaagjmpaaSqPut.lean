/- SpanPut: what it gives; append to a row of spans. -/
import Derived.Test.YtphklknaagjmpaaSqFree2
import Derived.Test.YtphklknaagjmpaaRowO
import Derived.Lib.SliceRun
namespace Go.Proofs.Ytphklknaagjmpaa.SpanC
open Go.RowKit KeptC RowC
set_option linter.unusedSimpArgs false
set_option linter.unusedVariables false

def pc (f : Nat → Int × Int) (j : Nat) : Value := if j % 2 = 0 then .int .i64 (f (j / 2)).1 else .int .i64 (f (j / 2)).2
theorem pc_one (f : Nat → Int × Int) (j : Nat) : (pc f j).oneCell' = true := by unfold pc; split <;> rfl
theorem pc_even (f : Nat → Int × Int) (i : Nat) : pc f (i * 2) = .int .i64 (f i).1 := by unfold pc; rw [if_pos (by omega), show i * 2 / 2 = i by omega]
theorem pc_odd (f : Nat → Int × Int) (i : Nat) : pc f (i * 2 + 1) = .int .i64 (f i).2 := by unfold pc; rw [if_neg (by omega), show (i * 2 + 1) / 2 = i by omega]
theorem pc_of {p : Nat → Value} {f : Nat → Int × Int} {n : Nat} (h : ∀ i, i < n → p (i * 2) = .int .i64 (f i).1 ∧ p (i * 2 + 1) = .int .i64 (f i).2) : ∀ j, j < n * 2 → p j = pc f j := by
  intro j hj
  have h2 := h (j / 2) (by omega)
  rcases Nat.mod_two_eq_zero_or_one j with e | e
  · have e2 : j / 2 * 2 = j := by omega
    rw [e2] at h2
    rw [h2.1, show pc f j = pc f (j / 2 * 2) by rw [e2], pc_even]
  · have e2 : j / 2 * 2 + 1 = j := by omega
    rw [e2] at h2
    rw [h2.2, show pc f j = pc f (j / 2 * 2 + 1) by rw [e2], pc_odd]
theorem PRow.cells {W : World} {g o n : Nat} {f : Nat → Int × Int} (h : PRow W g o n f) : ∀ j, j < n * 2 → W.cell? ⟨g, o + j, none⟩ = some (pc f j) := by
  intro j hj
  have h2 := h (j / 2) (by omega)
  rcases Nat.mod_two_eq_zero_or_one j with e | e
  · have e2 : j / 2 * 2 = j := by omega
    rw [e2] at h2
    rw [h2.1, show pc f j = pc f (j / 2 * 2) by rw [e2], pc_even]
  · have e2 : j / 2 * 2 + 1 = j := by omega
    rw [Nat.add_assoc, e2] at h2
    rw [h2.2, show pc f j = pc f (j / 2 * 2 + 1) by rw [e2], pc_odd]
theorem prow_of {W : World} {g o n : Nat} {f : Nat → Int × Int} (h : ∀ j, j < n * 2 → W.cell? ⟨g, o + j, none⟩ = some (pc f j)) : PRow W g o n f := fun i hi => by
  refine ⟨?_, ?_⟩
  · rw [h (i * 2) (by omega), pc_even]
  · rw [Nat.add_assoc, h (i * 2 + 1) (by omega), pc_odd]
/-- a row of spans that the call owns -/
abbrev RowS (W : World) (lo : Nat) (v : Value) (n : Nat) (f : Nat → Int × Int) : Prop := RowO W lo 25 2 v n (pc f)
theorem RowO.spans {W : World} {lo n : Nat} {v : Value} {f : Nat → Int × Int} (h : RowS W lo v n f) (hn : 0 < n) : ∃ g cap, v = .slice (some ⟨g, 0, none⟩) n cap ∧ lo ≤ g ∧ g < W.heap.size ∧ n ≤ cap ∧ PRow W g 0 n f ∧ (∀ j, W.frozen? ⟨g, j, none⟩ = false) := by
  obtain ⟨g, cap, h1, h2, h3, h4, h5, h6⟩ := h.form hn
  exact ⟨g, cap, h1, h2, h3, h4, prow_of (fun j hj => by simpa using h5 j hj), h6⟩

theorem infoS : ∃ i, Try.prog.info? 25 = some i ∧ i.zero = some (.agg #[.int .i64 0, .int .i64 0]) ∧ i.size = 2 ∧ i.bytes = 16 := by
  have h := infoL
  cases hx : Try.prog.info? 25 with
  | none => rw [hx] at h; simp at h
  | some i => rw [hx] at h; simp at h; exact ⟨i, rfl, h.1, h.2.1, h.2.2⟩

def app (f : Nat → Int × Int) (n : Nat) (h : Nat → Int × Int) (i : Nat) : Int × Int := if i < n then f i else h (i - n)
theorem app_pc (f h : Nat → Int × Int) (n m : Nat) : ∀ j, j < (n + m) * 2 → (if j < n * 2 then pc f j else pc h (j - n * 2)) = pc (app f n h) j := by
  refine pc_of (p := fun j => if j < n * 2 then pc f j else pc h (j - n * 2)) (fun i hi => ?_)
  unfold app
  by_cases e : i < n
  · rw [if_pos e]
    exact ⟨by rw [if_pos (by omega), pc_even], by rw [if_pos (by omega), pc_odd]⟩
  · rw [if_neg e]
    refine ⟨?_, ?_⟩
    · rw [if_neg (by omega), show i * 2 - n * 2 = (i - n) * 2 by omega, pc_even]
    · rw [if_neg (by omega), show i * 2 + 1 - n * 2 = (i - n) * 2 + 1 by omega, pc_odd]

theorem app_sp (W : World) (lo : Nat) (t ty : TypeId) (ht : Try.prog.underlying t = some (.slice 25)) {v : Value} {n : Nat} {f : Nat → Int × Int} (hown : RowS W lo v n f) {g o m : Nat} (k : Nat) {h : Nat → Int × Int} (hd : PRow W g o m h)
    (hnm : n + m ≤ 4194304) (hl : lo ≤ W.heap.size) :
    ∃ v' W', (Builtin.append_ #[t, t] ty #[v, .slice (some ⟨g, o, none⟩) m k]).run Try.prog W = .ok v' W' ∧ RowS W' lo v' (n + m) (app f n h) ∧ Below lo W W' ∧ W.grownBy W' v.ownBlock ∧ (v'.ownBlock = v.ownBlock ∨ v'.ownBlock = some W.heap.size) := by
  obtain ⟨i, hi, hz, hs, hb⟩ := infoS
  obtain ⟨v', W', h1, h2, h3, h4, h5⟩ := run_app (P := Try.prog) W lo t ty 25 i _ 2 16 ht hi hz hs hb rfl (by omega) v n (pc f) hown g o m k (pc h) hd.cells (fun j _ => pc_one h j) (by unfold maxLen; omega) (by omega) hl
  exact ⟨v', W', h1, RowO.congr h2 (app_pc f h n m), h3, h4, h5⟩
theorem app_sp_full (W : World) (t ty : TypeId) (ht : Try.prog.underlying t = some (.slice 25)) {b q n : Nat} {f : Nat → Int × Int} (hc : PRow W b q n f) {g o m : Nat} (k : Nat) {h : Nat → Int × Int} (hd : PRow W g o m h)
    (hm : 0 < m) (hnm : n + m ≤ 4194304) :
    ∃ v' W', (Builtin.append_ #[t, t] ty #[.slice (some ⟨b, q, none⟩) n n, .slice (some ⟨g, o, none⟩) m k]).run Try.prog W = .ok v' W' ∧ RowS W' W.heap.size v' (n + m) (app f n h) ∧ Below W.heap.size W W' ∧ v'.ownBlock = some W.heap.size := by
  obtain ⟨i, hi, hz, hs, hb⟩ := infoS
  obtain ⟨v', W', h1, h2, h3, h4⟩ := run_app_full (P := Try.prog) W t ty 25 i _ 2 16 ht hi hz hs hb rfl b q n (pc f) hc.cells g o m k (pc h) hd.cells hm (by unfold maxLen; omega) (by omega)
  exact ⟨v', W', h1, RowO.congr h2 (app_pc f h n m), h3, h4⟩

def insF (f : Nat → Int × Int) (p : Nat) (x : Int × Int) (i : Nat) : Int × Int := if i < p then f i else if i = p then x else f (i - 1)
/-- what SpanPut gives -/
def PutP (n : Nat) (f : Nat → Int × Int) (a b : Int) (m : Nat) (h : Nat → Int × Int) : Prop :=
  (400 < n ∧ m = 0) ∨ (n ≤ 400 ∧ ¬ (FreeB n f a b ∧ n < 20) ∧ m = n ∧ ∀ i, i < n → h i = f i) ∨
  (n ≤ 400 ∧ FreeB n f a b ∧ n < 20 ∧ m = n + 1 ∧ ∃ p, PlaceP n f a p ∧ ∀ i, i < n + 1 → h i = insF f p (a, b) i)
theorem place_one {n : Nat} {f : Nat → Int × Int} {a : Int} {p q : Nat} (hp : PlaceP n f a p) (hq : PlaceP n f a q) : p = q := by
  obtain ⟨p0, p1, p2⟩ := hp
  obtain ⟨q0, q1, q2⟩ := hq
  rcases Nat.lt_trichotomy p q with e | e | e
  · exact absurd (q1 p e) (p2 (by omega))
  · exact e
  · exact absurd (p1 q e) (q2 (by omega))
theorem putP_one {n : Nat} {f : Nat → Int × Int} {a b : Int} {m m' : Nat} {h h' : Nat → Int × Int} (hp : PutP n f a b m h) (hq : PutP n f a b m' h') : m = m' ∧ ∀ i, i < m → h i = h' i := by
  rcases hp with ⟨h1, rfl⟩ | ⟨h1, h2, rfl, h3⟩ | ⟨h1, h2, h3, rfl, p, h4, h5⟩ <;> rcases hq with ⟨k1, rfl⟩ | ⟨k1, k2, rfl, k3⟩ | ⟨k1, k2, k3, rfl, q, k4, k5⟩
  · exact ⟨rfl, fun i hi => absurd hi (Nat.not_lt_zero _)⟩
  · omega
  · omega
  · omega
  · exact ⟨rfl, fun i hi => (h3 i hi).trans (k3 i hi).symm⟩
  · exact absurd ⟨k2, k3⟩ h2
  · omega
  · exact absurd ⟨h2, h3⟩ k2
  · obtain rfl := place_one h4 k4
    exact ⟨rfl, fun i hi => (h5 i hi).trans (k5 i hi).symm⟩
theorem place_from {n : Nat} {f : Nat → Int × Int} {a b : Int} (hF : FreeB n f a b) {k : Nat} (hk : k ≤ n) (h1 : ∀ j, j < k → (f j).1 < a) (h2 : k < n → ¬ (f k).1 < a) : PlaceP n f a k := by
  obtain ⟨hS, hP, hf⟩ := hF
  have hab := hP.2.1
  refine ⟨hk, fun j hj => ?_, fun hkn => ?_⟩
  · have e1 := h1 j hj
    have e2 := hf j (by omega)
    omega
  · have e1 := h2 hkn
    have e2 := sp_lt hS hkn
    omega

def ResRow (Q : Nat → (Nat → Int × Int) → Prop) (w : World) (e : Ending) (w' : World) : Prop := ∃ v m h, e = .returned v ∧ Q m h ∧ RowS w' w.heap.size v m h ∧ Below w.heap.size w w'
theorem resRow_elim {Q : Nat → (Nat → Int × Int) → Prop} {w : World} {e : Ending} {w' : World} (h : ResRow Q w e w') : ∃ v m h, e = .returned v ∧ Q m h ∧ RowS w' w.heap.size v m h ∧ Below w.heap.size w w' := h


theorem app_none {P : Program} {w : World} {t ty e : TypeId} {i : TypeInfo} (ht : P.underlying t = some (.slice e)) (hi : P.info? e = some i) (base a : Option Addr) (n cap c : Nat) (hn : n ≤ cap) :
    (Builtin.append_ #[t, t] ty #[.slice base n cap, .slice a 0 c]).run P w = .ok (.slice base n cap) w := by
  have hf : (Builtin.firstCells i.size 0 (.slice a 0 c)).run P w = .ok #[] w := by
    cases a with
    | none => exact run_firstCells_none _ _ _ _ _
    | some a => exact run_firstCells_some _ _ 0 a 0 c [] (by simp) (by simp)
  cases base <;> simp [Builtin.append_, run_underlying ht, sizeOf, typeInfo, hi, Builtin.lenOf, hf, storeCells, hn]
/-- a slice of pairs: nil, or at a block -/
def PS (W : World) (qa : Option Addr) (n qc : Nat) (f : Nat → Int × Int) : Prop := (qa = none ∧ n = 0) ∨ ∃ g o, qa = some ⟨g, o, none⟩ ∧ g < W.heap.size ∧ n ≤ qc ∧ PRow W g o n f
theorem PS.pa {W : World} {qa : Option Addr} {n qc : Nat} {f : Nat → Int × Int} (h : PS W qa n qc f) : PA W qa n f := by
  rcases h with ⟨_, rfl⟩ | ⟨g, o, rfl, hg, _, h⟩
  · exact fun i hi => absurd hi (Nat.not_lt_zero _)
  · exact h.pa hg
theorem PS.bel {W W' : World} {qa : Option Addr} {n qc : Nat} {f : Nat → Int × Int} (h : PS W qa n qc f) (hb : Below W.heap.size W W') : PS W' qa n qc f := by
  rcases h with h | ⟨g, o, e, hg, hc, h⟩
  · exact .inl h
  · exact .inr ⟨g, o, e, Nat.lt_of_lt_of_le hg hb.size, hc, h.below hb hg⟩

theorem clone_some (g o n qc : Nat) (hnc : n ≤ qc) (f : Nat → Int × Int) (w : World) (hn : n ≤ 1048576) (h1 : PRow w g o n f) (l1 : g < w.heap.size) :
    Calls Try.prog 20 #[.slice (some ⟨g, o, none⟩) n qc] w (ResRow (fun m h => m = n ∧ ∀ i, i < n → h i = f i) w) := by
  have qT : ∀ (w : World) (a : Option Addr) (n c n' c' : Nat), (binOp .eql 23 (.slice a n c) (.slice none n' c')).run Try.prog w = .ok (.bool a.isNone) w := fun w a n c n' c' => Lib.run_eql_slice_nil w _ _ a n c n' c' Try.underlying23
  obtain ⟨v', W', hr, hown, hbel, hg, hat⟩ := app_sp (w.alloc (.cells #[] 25)) w.heap.size 23 23 Try.underlying23 (RowO.made0 w w.heap.size _ 2 (pc f) (Nat.le_refl _)) qc (h1.below ((Below.refl _ _).alloc (Nat.le_refl _) _) l1) (by omega) (by simp)
  have H1 := Lib.hid (show ResRow (fun m h => m = n ∧ ∀ i, i < n → h i = f i) w (.returned v') W' from ⟨v', 0 + n, _, rfl, ⟨by omega, fun i hi => by simp [app]⟩, hown, ((Below.refl _ _).alloc (Nat.le_refl _) _).trans hbel⟩)
  have HR := Lib.hid hr
  clear hown hbel hg hat h1 hr
  go_enter Try.func20, Try.ntmps20
  go_wp2_with (at_builtin; refine wpList_app rfl (.tmp 5) (.tmp 6) 23 rfl rfl rfl HR.out ?_)
  go_ret
  exact H1.out
set_option maxRecDepth 100000 in
set_option maxHeartbeats 1600000 in
theorem clone_none (qc : Nat) (f : Nat → Int × Int) (w : World) :
    Calls Try.prog 20 #[.slice none 0 qc] w (ResRow (fun m h => m = 0 ∧ ∀ i, i < 0 → h i = f i) w) := by
  have qT : ∀ (w : World) (a : Option Addr) (n c n' c' : Nat), (binOp .eql 23 (.slice a n c) (.slice none n' c')).run Try.prog w = .ok (.bool a.isNone) w := fun w a n c n' c' => Lib.run_eql_slice_nil w _ _ a n c n' c' Try.underlying23
  have H1 := Lib.hid (show ResRow (fun m h => m = 0 ∧ ∀ i, i < 0 → h i = f i) w (.returned (.slice none 0 0)) w from ⟨_, 0, f, rfl, ⟨rfl, fun i hi => absurd hi (Nat.not_lt_zero _)⟩, RowO.nil _ _ _ _ _, Below.refl _ _⟩)
  go_enter Try.func20, Try.ntmps20
  go_wp2
  go_ret
  exact H1.out
theorem clone_impl (qa : Option Addr) (n qc : Nat) (f : Nat → Int × Int) (w : World) (hn : n ≤ 1048576) (h1 : PS w qa n qc f) :
    Calls Try.prog 20 #[.slice qa n qc] w (ResRow (fun m h => m = n ∧ ∀ i, i < n → h i = f i) w) := by
  rcases h1 with ⟨rfl, rfl⟩ | ⟨g, o, rfl, l1, hnc, h1⟩
  · exact clone_none qc f w
  · exact clone_some g o n qc hnc f w hn h1 l1
end Go.Proofs.Ytphklknaagjmpaa.SpanC
