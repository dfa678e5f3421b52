/- Data in memory: what may be read, what is owned, what is marked: one notion for every type of the laws: general in the program. -/
import Derived.Test.YtfmgjkmlnaeagaaVals
namespace Go.Proofs.Ytfmgjkmlnaeagaa.RepC
open Go.RowKit RowC ValC

/-- the cells from ⟨g, o⟩ on are those of the list -/
def CellsAt (W : World) (g o : Nat) (cs : List Value) : Prop := ∀ j c, cs[j]? = some c → W.cell? ⟨g, o + j, none⟩ = some c
theorem CellsAt.keep {W W' : World} {g o : Nat} {cs : List Value} (h : CellsAt W g o cs) (hb : W'.heap[g]? = W.heap[g]?) : CellsAt W' g o cs := fun j c hc => (World.cell?_of_block (a := ⟨g, o + j, none⟩) hb).trans (h j c hc)
theorem CellsAt.app {W : World} {g o : Nat} {cs ds : List Value} : CellsAt W g o (cs ++ ds) ↔ CellsAt W g o cs ∧ CellsAt W g (o + cs.length) ds := by
  constructor
  · intro h
    refine ⟨fun j c hc => h j c ?_, fun j c hc => ?_⟩
    · have hj := (List.getElem?_eq_some_iff.1 hc).1
      rw [List.getElem?_append_left hj]; exact hc
    · have := h (cs.length + j) c (by rw [List.getElem?_append_right (by omega)]; simpa using hc)
      rw [Nat.add_assoc]
      exact this
  · rintro ⟨h1, h2⟩ j c hc
    by_cases hj : j < cs.length
    · rw [List.getElem?_append_left hj] at hc; exact h1 j c hc
    · rw [List.getElem?_append_right (by omega)] at hc
      have := h2 _ c hc
      rw [show o + cs.length + (j - cs.length) = o + j by omega] at this
      exact this
theorem CellsAt.cons {W : World} {g o : Nat} {c : Value} {ds : List Value} : CellsAt W g o (c :: ds) ↔ W.cell? ⟨g, o, none⟩ = some c ∧ CellsAt W g (o + 1) ds := by
  constructor
  · intro h
    refine ⟨h 0 c rfl, fun j d hd => ?_⟩
    have := h (j + 1) d (by simpa using hd)
    rw [show o + (j + 1) = o + 1 + j by omega] at this
    exact this
  · rintro ⟨h1, h2⟩ j d hd
    cases j with
    | zero => simp at hd; subst hd; exact h1
    | succ j =>
      have := h2 j d (by simpa using hd)
      rw [show o + 1 + j = o + (j + 1) by omega] at this
      exact this
theorem CellsAt.nil {W : World} {g o : Nat} : CellsAt W g o [] := fun j c hc => by simp at hc

/-- how data of one kind lie in memory: how many cells; what may be read below a block; what lies wholly in a set of blocks and may be written; what is marked from k to k' in memory (mm) and by value (mv); how many marks that makes -/
structure Rp (α : Type) where
  size : Nat
  rd : World → Nat → α → List Value → Prop
  ow : World → (Nat → Prop) → α → List Value → Prop
  mm : α → Int → Int → Prop
  mv : α → Int → Int → Prop
  cm : α → Nat
  cv : α → Nat
  sz : α → Nat
structure Ok {α : Type} (E : Rp α) : Prop where
  rd_len : ∀ {W B d cs}, E.rd W B d cs → cs.length = E.size
  ow_len : ∀ {W S d cs}, E.ow W S d cs → cs.length = E.size
  rd_below : ∀ {W W' B d cs}, E.rd W B d cs → Below B W W' → E.rd W' B d cs
  rd_more : ∀ {W B B' d cs}, E.rd W B d cs → B ≤ B' → E.rd W B' d cs
  ow_keep : ∀ {W W'} {S : Nat → Prop} {d cs}, E.ow W S d cs → (∀ k, S k → W'.heap[k]? = W.heap[k]?) → E.ow W' S d cs
  ow_more : ∀ {W} {S T : Nat → Prop} {d cs}, E.ow W S d cs → (∀ k, S k → T k) → E.ow W T d cs
  ow_rd : ∀ {W} {S : Nat → Prop} {B d cs}, E.ow W S d cs → (∀ k, S k → k < B) → E.rd W B d cs
  one : ∀ {W B d cs}, E.rd W B d cs → ∀ u ∈ cs, u.oneCell' = true

/-! ### kinds of one cell that bear their value in themselves -/
def atom {α : Type} (f : α → Value) (mm : α → Int → Int → Prop) (sz : α → Nat) : Rp α := { size := 1, rd := fun _ _ d cs => cs = [f d], ow := fun _ _ d cs => cs = [f d], mm := mm, mv := fun _ k k' => k' = k, cm := fun _ => 1, cv := fun _ => 0, sz := sz }
theorem atom_ok {α : Type} (f : α → Value) (mm : α → Int → Int → Prop) (sz : α → Nat) (h1 : ∀ d, (f d).oneCell' = true) : Ok (atom f mm sz) where
  rd_len h := by rw [show _ = [f _] from h]; rfl
  ow_len h := by rw [show _ = [f _] from h]; rfl
  rd_below h _ := h
  rd_more h _ := h
  ow_keep h _ := h
  ow_more h _ := h
  ow_rd h _ := h
  one h u hu := by rw [show _ = [f _] from h] at hu; simp at hu; subst hu; exact h1 _
def I : Rp Int := atom (fun n => .int .i64 n) (fun d k k' => d = k ∧ k' = k + 1) (fun _ => 0)
theorem I_ok : Ok I := atom_ok _ _ _ fun _ => rfl
def Bo : Rp Bool := { atom (fun b => .bool b) (fun _ k k' => k' = k) (fun _ => 0) with cm := fun _ => 0 }
theorem Bo_ok : Ok Bo where
  rd_len h := by rw [show _ = [Value.bool _] from h]; rfl
  ow_len h := by rw [show _ = [Value.bool _] from h]; rfl
  rd_below h _ := h
  rd_more h _ := h
  ow_keep h _ := h
  ow_more h _ := h
  ow_rd h _ := h
  one h u hu := by rw [show _ = [Value.bool _] from h] at hu; simp at hu; subst hu; rfl

/-! ### one behind the other -/
def Pr {α β : Type} (E : Rp α) (F : Rp β) : Rp (α × β) where
  size := E.size + F.size
  rd W B d cs := ∃ us vs, cs = us ++ vs ∧ E.rd W B d.1 us ∧ F.rd W B d.2 vs
  ow W S d cs := ∃ us vs, ∃ S1 S2 : Nat → Prop, cs = us ++ vs ∧ (∀ k, S1 k → S k) ∧ (∀ k, S2 k → S k) ∧ (∀ k, S1 k → ¬ S2 k) ∧ E.ow W S1 d.1 us ∧ F.ow W S2 d.2 vs
  mm d k k' := ∃ k1, E.mm d.1 k k1 ∧ F.mm d.2 k1 k'
  mv d k k' := ∃ k1, E.mv d.1 k k1 ∧ F.mv d.2 k1 k'
  cm d := E.cm d.1 + F.cm d.2
  cv d := E.cv d.1 + F.cv d.2
  sz d := E.sz d.1 + F.sz d.2
theorem Pr_ok {α β : Type} {E : Rp α} {F : Rp β} (hE : Ok E) (hF : Ok F) : Ok (Pr E F) where
  rd_len h := by obtain ⟨us, vs, rfl, h1, h2⟩ := h; rw [List.length_append, hE.rd_len h1, hF.rd_len h2]; rfl
  ow_len h := by obtain ⟨us, vs, _, _, rfl, _, _, _, h1, h2⟩ := h; rw [List.length_append, hE.ow_len h1, hF.ow_len h2]; rfl
  rd_below h hb := by obtain ⟨us, vs, rfl, h1, h2⟩ := h; exact ⟨us, vs, rfl, hE.rd_below h1 hb, hF.rd_below h2 hb⟩
  rd_more h hb := by obtain ⟨us, vs, rfl, h1, h2⟩ := h; exact ⟨us, vs, rfl, hE.rd_more h1 hb, hF.rd_more h2 hb⟩
  ow_keep h hb := by
    obtain ⟨us, vs, S1, S2, rfl, a, b, c, h1, h2⟩ := h
    exact ⟨us, vs, S1, S2, rfl, a, b, c, hE.ow_keep h1 (fun k hk => hb k (a k hk)), hF.ow_keep h2 (fun k hk => hb k (b k hk))⟩
  ow_more h hT := by
    obtain ⟨us, vs, S1, S2, rfl, a, b, c, h1, h2⟩ := h
    exact ⟨us, vs, S1, S2, rfl, fun k hk => hT k (a k hk), fun k hk => hT k (b k hk), c, h1, h2⟩
  ow_rd h hB := by
    obtain ⟨us, vs, S1, S2, rfl, a, b, c, h1, h2⟩ := h
    exact ⟨us, vs, rfl, hE.ow_rd h1 (fun k hk => hB k (a k hk)), hF.ow_rd h2 (fun k hk => hB k (b k hk))⟩
  one h u hu := by
    obtain ⟨us, vs, rfl, h1, h2⟩ := h
    rcases List.mem_append.1 hu with h | h
    · exact hE.one h1 u h
    · exact hF.one h2 u h

/-! ### slices -/
/-- a slice that may be read: its address is known where it has an element -/
def RdSl {α : Type} (E : Rp α) (W : World) (B : Nat) (L : List α) (a : Option Addr) (cap : Nat) : Prop :=
  L.length ≤ cap ∧ cap ≤ maxLen ∧ (0 < L.length → ∃ g o, a = some ⟨g, o, none⟩ ∧ g < B ∧ ∀ i x, L[i]? = some x → ∃ us, CellsAt W g (o + i * E.size) us ∧ E.rd W B x us)
/-- a slice in a block of its own: element i in the blocks of Sf i, no two of which meet -/
def OwSl {α : Type} (E : Rp α) (W : World) (S : Nat → Prop) (L : List α) (a : Option Addr) (cap : Nat) : Prop :=
  L.length ≤ cap ∧ cap ≤ maxLen ∧ (0 < L.length → ∃ g, ∃ Sf : Nat → Nat → Prop, a = some ⟨g, 0, none⟩ ∧ S g ∧ (∀ j, W.frozen? ⟨g, j, none⟩ = false) ∧ (∀ i k, Sf i k → S k ∧ k ≠ g) ∧ (∀ i j k, i < j → Sf i k → ¬ Sf j k) ∧
    ∀ i x, L[i]? = some x → ∃ us, CellsAt W g (i * E.size) us ∧ E.ow W (Sf i) x us)
def mmL {α : Type} (E : Rp α) : List α → Int → Int → Prop
  | [], k, k' => k' = k
  | x :: xs, k, k' => ∃ k1, E.mm x k k1 ∧ mmL E xs k1 k'
def sumL {α : Type} (f : α → Nat) : List α → Nat
  | [] => 0
  | x :: xs => f x + sumL f xs
def Sl {α : Type} (E : Rp α) : Rp (List α) where
  size := 1
  rd W B L cs := ∃ a cap, cs = [.slice a L.length cap] ∧ RdSl E W B L a cap
  ow W S L cs := ∃ a cap, cs = [.slice a L.length cap] ∧ OwSl E W S L a cap
  mm := mmL E
  mv := mmL E
  cm := sumL E.cm
  cv := sumL E.cm
  sz L := L.length + sumL E.sz L
theorem RdSl.below {α : Type} {E : Rp α} (hE : Ok E) {W W' : World} {B : Nat} {L : List α} {a : Option Addr} {cap : Nat} (h : RdSl E W B L a cap) (hb : Below B W W') : RdSl E W' B L a cap := by
  obtain ⟨h1, h2, h3⟩ := h
  refine ⟨h1, h2, fun hn => ?_⟩
  obtain ⟨g, o, ha, hg, hc⟩ := h3 hn
  refine ⟨g, o, ha, hg, fun i x hx => ?_⟩
  obtain ⟨us, hu, hr⟩ := hc i x hx
  exact ⟨us, hu.keep (hb.block g hg), hE.rd_below hr hb⟩
theorem RdSl.more {α : Type} {E : Rp α} (hE : Ok E) {W : World} {B B' : Nat} {L : List α} {a : Option Addr} {cap : Nat} (h : RdSl E W B L a cap) (hb : B ≤ B') : RdSl E W B' L a cap := by
  obtain ⟨h1, h2, h3⟩ := h
  refine ⟨h1, h2, fun hn => ?_⟩
  obtain ⟨g, o, ha, hg, hc⟩ := h3 hn
  refine ⟨g, o, ha, Nat.lt_of_lt_of_le hg hb, fun i x hx => ?_⟩
  obtain ⟨us, hu, hr⟩ := hc i x hx
  exact ⟨us, hu, hE.rd_more hr hb⟩
theorem OwSl.keep {α : Type} {E : Rp α} (hE : Ok E) {W W' : World} {S : Nat → Prop} {L : List α} {a : Option Addr} {cap : Nat} (h : OwSl E W S L a cap) (hb : ∀ k, S k → W'.heap[k]? = W.heap[k]?) : OwSl E W' S L a cap := by
  obtain ⟨h1, h2, h3⟩ := h
  refine ⟨h1, h2, fun hn => ?_⟩
  obtain ⟨g, Sf, ha, hg, hf, hs, hd, hc⟩ := h3 hn
  refine ⟨g, Sf, ha, hg, fun j => (World.frozen?_of_block (a := ⟨g, j, none⟩) (hb g hg)).trans (hf j), hs, hd, fun i x hx => ?_⟩
  obtain ⟨us, hu, hr⟩ := hc i x hx
  exact ⟨us, hu.keep (hb g hg), hE.ow_keep hr (fun k hk => hb k (hs i k hk).1)⟩
theorem OwSl.more {α : Type} {E : Rp α} {W : World} {S T : Nat → Prop} {L : List α} {a : Option Addr} {cap : Nat} (h : OwSl E W S L a cap) (hT : ∀ k, S k → T k) : OwSl E W T L a cap := by
  obtain ⟨h1, h2, h3⟩ := h
  refine ⟨h1, h2, fun hn => ?_⟩
  obtain ⟨g, Sf, ha, hg, hf, hs, hd, hc⟩ := h3 hn
  exact ⟨g, Sf, ha, hT g hg, hf, fun i k hk => ⟨hT k (hs i k hk).1, (hs i k hk).2⟩, hd, hc⟩
theorem OwSl.rd {α : Type} {E : Rp α} (hE : Ok E) {W : World} {S : Nat → Prop} {B : Nat} {L : List α} {a : Option Addr} {cap : Nat} (h : OwSl E W S L a cap) (hB : ∀ k, S k → k < B) : RdSl E W B L a cap := by
  obtain ⟨h1, h2, h3⟩ := h
  refine ⟨h1, h2, fun hn => ?_⟩
  obtain ⟨g, Sf, ha, hg, hf, hs, hd, hc⟩ := h3 hn
  refine ⟨g, 0, ha, hB g hg, fun i x hx => ?_⟩
  obtain ⟨us, hu, hr⟩ := hc i x hx
  exact ⟨us, by rw [Nat.zero_add]; exact hu, hE.ow_rd hr (fun k hk => hB k (hs i k hk).1)⟩
theorem Sl_ok {α : Type} {E : Rp α} (hE : Ok E) : Ok (Sl E) where
  rd_len h := by obtain ⟨a, cap, rfl, _⟩ := h; rfl
  ow_len h := by obtain ⟨a, cap, rfl, _⟩ := h; rfl
  rd_below h hb := by obtain ⟨a, cap, rfl, h⟩ := h; exact ⟨a, cap, rfl, h.below hE hb⟩
  rd_more h hb := by obtain ⟨a, cap, rfl, h⟩ := h; exact ⟨a, cap, rfl, h.more hE hb⟩
  ow_keep h hb := by obtain ⟨a, cap, rfl, h⟩ := h; exact ⟨a, cap, rfl, h.keep hE hb⟩
  ow_more h hT := by obtain ⟨a, cap, rfl, h⟩ := h; exact ⟨a, cap, rfl, h.more hT⟩
  ow_rd h hB := by obtain ⟨a, cap, rfl, h⟩ := h; exact ⟨a, cap, rfl, h.rd hE hB⟩
  one h u hu := by obtain ⟨a, cap, rfl, h⟩ := h; simp at hu; subst hu; rfl

/-- the slice at hand, element by element -/
theorem RdSl.at_ {α : Type} {E : Rp α} {W : World} {B : Nat} {L : List α} {a : Option Addr} {cap : Nat} (h : RdSl E W B L a cap) {i : Nat} {x : α} (hx : L[i]? = some x) :
    ∃ g o us, a = some ⟨g, o, none⟩ ∧ g < B ∧ CellsAt W g (o + i * E.size) us ∧ E.rd W B x us := by
  have hi := (List.getElem?_eq_some_iff.1 hx).1
  obtain ⟨g, o, ha, hg, hc⟩ := h.2.2 (by omega)
  obtain ⟨us, hu, hr⟩ := hc i x hx
  exact ⟨g, o, us, ha, hg, hu, hr⟩
theorem mmL_app {α : Type} {E : Rp α} : ∀ {L M : List α} {k k' k'' : Int}, mmL E L k k' → mmL E M k' k'' → mmL E (L ++ M) k k''
  | [], M, k, k', k'', h, h' => by simp only [mmL] at h; subst h; exact h'
  | x :: xs, M, k, k', k'', ⟨k1, h1, h2⟩, h' => ⟨k1, h1, mmL_app h2 h'⟩
theorem sumL_app {α : Type} (f : α → Nat) : ∀ (L M : List α), sumL f (L ++ M) = sumL f L + sumL f M
  | [], M => by simp [sumL]
  | x :: xs, M => by simp only [List.cons_append, sumL, sumL_app f xs M]; omega
theorem sumL_one {α : Type} (f : α → Nat) (x : α) : sumL f [x] = f x := by simp [sumL]
end Go.Proofs.Ytfmgjkmlnaeagaa.RepC
