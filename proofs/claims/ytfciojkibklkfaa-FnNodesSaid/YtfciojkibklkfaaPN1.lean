/- Of this claim's texts the part 1: Rep Rep2 Rep3 Held NdT NdP NdV NApp Gen NFlat NdC NdI NARow NdK NdX. -/
import Derived.LoopTactic
import Derived.BigQuiet
import Derived.Deep.QuietTactic
import Derived.Deep.RegionWith
import Derived.Deep.RegionHeld3
import Derived.Deep.DeepCutAuto
import Derived.RegionTactic
import Derived.WalkSpells
import Derived.WalkLawsBesides
import Derived.IntWalk
import Derived.Lib.Hide
import Derived.Laws.MakeOwn
import Derived.Laws.Entries
import Derived.Lib.AppendZeros
import Derived.Laws.IdiomCopy
import Derived.Lib.SliceRun
import Derived.Test.YtfciojkibklkfaaPN0
section
namespace Go.Proofs.Ytfciojkibklkfaa.RepC
open Go.RowKit RowC ValC
def CellsAt (W : World) (g o : Nat) (cs : List Value) : Prop := ∀ j c, cs[j]? = some c → W.cell? ⟨g, o + j, none⟩ = some c
theorem CellsAt.keep {W W' : World} {g o : Nat} {cs : List Value} (h : CellsAt W g o cs) (hb : W'.heap[g]? = W.heap[g]?) : CellsAt W' g o cs := fun j c hc => (World.cell?_of_block (a := ⟨g, o + j, none⟩) hb).trans (h j c hc)
theorem CellsAt.app {W : World} {g o : Nat} {cs ds : List Value} : CellsAt W g o (cs ++ ds) ↔ CellsAt W g o cs ∧ CellsAt W g (o + cs.length) ds := by
  constructor
  · intro h
    refine ⟨fun j c hc => h j c ?_, fun j c hc => ?_⟩
    · have hj := (List.getElem?_eq_some_iff.1 hc).1
      rw [List.getElem?_append_left hj]; exact hc
    · have := h (cs.length + j) c (by rw [List.getElem?_append_right (by omega)]; simpa using hc)
      rw [Nat.add_assoc]
      exact this
  · rintro ⟨h1, h2⟩ j c hc
    by_cases hj : j < cs.length
    · rw [List.getElem?_append_left hj] at hc; exact h1 j c hc
    · rw [List.getElem?_append_right (by omega)] at hc
      have := h2 _ c hc
      rw [show o + cs.length + (j - cs.length) = o + j by omega] at this
      exact this
theorem CellsAt.cons {W : World} {g o : Nat} {c : Value} {ds : List Value} : CellsAt W g o (c :: ds) ↔ W.cell? ⟨g, o, none⟩ = some c ∧ CellsAt W g (o + 1) ds := by
  constructor
  · intro h
    refine ⟨h 0 c rfl, fun j d hd => ?_⟩
    have := h (j + 1) d (by simpa using hd)
    rw [show o + (j + 1) = o + 1 + j by omega] at this
    exact this
  · rintro ⟨h1, h2⟩ j d hd
    cases j with
    | zero => simp at hd; subst hd; exact h1
    | succ j =>
      have := h2 j d (by simpa using hd)
      rw [show o + 1 + j = o + (j + 1) by omega] at this
      exact this
theorem CellsAt.nil {W : World} {g o : Nat} : CellsAt W g o [] := fun j c hc => by simp at hc
structure Rp (α : Type) where
  size : Nat
  rd : World → Nat → α → List Value → Prop
  ow : World → (Nat → Prop) → α → List Value → Prop
  mm : α → Int → Int → Prop
  mv : α → Int → Int → Prop
  cm : α → Nat
  cv : α → Nat
  sz : α → Nat
structure Ok {α : Type} (E : Rp α) : Prop where
  rd_len : ∀ {W B d cs}, E.rd W B d cs → cs.length = E.size
  ow_len : ∀ {W S d cs}, E.ow W S d cs → cs.length = E.size
  rd_below : ∀ {W W' B d cs}, E.rd W B d cs → Below B W W' → E.rd W' B d cs
  rd_more : ∀ {W B B' d cs}, E.rd W B d cs → B ≤ B' → E.rd W B' d cs
  ow_keep : ∀ {W W'} {S : Nat → Prop} {d cs}, E.ow W S d cs → (∀ k, S k → W'.heap[k]? = W.heap[k]?) → E.ow W' S d cs
  ow_more : ∀ {W} {S T : Nat → Prop} {d cs}, E.ow W S d cs → (∀ k, S k → T k) → E.ow W T d cs
  ow_rd : ∀ {W} {S : Nat → Prop} {B d cs}, E.ow W S d cs → (∀ k, S k → k < B) → E.rd W B d cs
  one : ∀ {W B d cs}, E.rd W B d cs → ∀ u ∈ cs, u.oneCell' = true
def atom {α : Type} (f : α → Value) (mm : α → Int → Int → Prop) (sz : α → Nat) : Rp α := { size := 1, rd := fun _ _ d cs => cs = [f d], ow := fun _ _ d cs => cs = [f d], mm := mm, mv := fun _ k k' => k' = k, cm := fun _ => 1, cv := fun _ => 0, sz := sz }
theorem atom_ok {α : Type} (f : α → Value) (mm : α → Int → Int → Prop) (sz : α → Nat) (h1 : ∀ d, (f d).oneCell' = true) : Ok (atom f mm sz) where
  rd_len h := by rw [show _ = [f _] from h]; rfl
  ow_len h := by rw [show _ = [f _] from h]; rfl
  rd_below h _ := h
  rd_more h _ := h
  ow_keep h _ := h
  ow_more h _ := h
  ow_rd h _ := h
  one h u hu := by rw [show _ = [f _] from h] at hu; simp at hu; subst hu; exact h1 _
def I : Rp Int := atom (fun n => .int .i64 n) (fun d k k' => d = k ∧ k' = k + 1) (fun _ => 0)
theorem I_ok : Ok I := atom_ok _ _ _ fun _ => rfl
def Pr {α β : Type} (E : Rp α) (F : Rp β) : Rp (α × β) where
  size := E.size + F.size
  rd W B d cs := ∃ us vs, cs = us ++ vs ∧ E.rd W B d.1 us ∧ F.rd W B d.2 vs
  ow W S d cs := ∃ us vs, ∃ S1 S2 : Nat → Prop, cs = us ++ vs ∧ (∀ k, S1 k → S k) ∧ (∀ k, S2 k → S k) ∧ (∀ k, S1 k → ¬ S2 k) ∧ E.ow W S1 d.1 us ∧ F.ow W S2 d.2 vs
  mm d k k' := ∃ k1, E.mm d.1 k k1 ∧ F.mm d.2 k1 k'
  mv d k k' := ∃ k1, E.mv d.1 k k1 ∧ F.mv d.2 k1 k'
  cm d := E.cm d.1 + F.cm d.2
  cv d := E.cv d.1 + F.cv d.2
  sz d := E.sz d.1 + F.sz d.2
theorem Pr_ok {α β : Type} {E : Rp α} {F : Rp β} (hE : Ok E) (hF : Ok F) : Ok (Pr E F) where
  rd_len h := by obtain ⟨us, vs, rfl, h1, h2⟩ := h; rw [List.length_append, hE.rd_len h1, hF.rd_len h2]; rfl
  ow_len h := by obtain ⟨us, vs, _, _, rfl, _, _, _, h1, h2⟩ := h; rw [List.length_append, hE.ow_len h1, hF.ow_len h2]; rfl
  rd_below h hb := by obtain ⟨us, vs, rfl, h1, h2⟩ := h; exact ⟨us, vs, rfl, hE.rd_below h1 hb, hF.rd_below h2 hb⟩
  rd_more h hb := by obtain ⟨us, vs, rfl, h1, h2⟩ := h; exact ⟨us, vs, rfl, hE.rd_more h1 hb, hF.rd_more h2 hb⟩
  ow_keep h hb := by
    obtain ⟨us, vs, S1, S2, rfl, a, b, c, h1, h2⟩ := h
    exact ⟨us, vs, S1, S2, rfl, a, b, c, hE.ow_keep h1 (fun k hk => hb k (a k hk)), hF.ow_keep h2 (fun k hk => hb k (b k hk))⟩
  ow_more h hT := by
    obtain ⟨us, vs, S1, S2, rfl, a, b, c, h1, h2⟩ := h
    exact ⟨us, vs, S1, S2, rfl, fun k hk => hT k (a k hk), fun k hk => hT k (b k hk), c, h1, h2⟩
  ow_rd h hB := by
    obtain ⟨us, vs, S1, S2, rfl, a, b, c, h1, h2⟩ := h
    exact ⟨us, vs, rfl, hE.ow_rd h1 (fun k hk => hB k (a k hk)), hF.ow_rd h2 (fun k hk => hB k (b k hk))⟩
  one h u hu := by
    obtain ⟨us, vs, rfl, h1, h2⟩ := h
    rcases List.mem_append.1 hu with h | h
    · exact hE.one h1 u h
    · exact hF.one h2 u h
def RdSl {α : Type} (E : Rp α) (W : World) (B : Nat) (L : List α) (a : Option Addr) (cap : Nat) : Prop :=
  L.length ≤ cap ∧ cap ≤ maxLen ∧ (0 < L.length → ∃ g o, a = some ⟨g, o, none⟩ ∧ g < B ∧ ∀ i x, L[i]? = some x → ∃ us, CellsAt W g (o + i * E.size) us ∧ E.rd W B x us)
def OwSl {α : Type} (E : Rp α) (W : World) (S : Nat → Prop) (L : List α) (a : Option Addr) (cap : Nat) : Prop :=
  L.length ≤ cap ∧ cap ≤ maxLen ∧ (0 < L.length → ∃ g, ∃ Sf : Nat → Nat → Prop, a = some ⟨g, 0, none⟩ ∧ S g ∧ (∀ j, W.frozen? ⟨g, j, none⟩ = false) ∧ (∀ i k, Sf i k → S k ∧ k ≠ g) ∧ (∀ i j k, i < j → Sf i k → ¬ Sf j k) ∧
    ∀ i x, L[i]? = some x → ∃ us, CellsAt W g (i * E.size) us ∧ E.ow W (Sf i) x us)
def mmL {α : Type} (E : Rp α) : List α → Int → Int → Prop
  | [], k, k' => k' = k
  | x :: xs, k, k' => ∃ k1, E.mm x k k1 ∧ mmL E xs k1 k'
def sumL {α : Type} (f : α → Nat) : List α → Nat
  | [] => 0
  | x :: xs => f x + sumL f xs
def Sl {α : Type} (E : Rp α) : Rp (List α) where
  size := 1
  rd W B L cs := ∃ a cap, cs = [.slice a L.length cap] ∧ RdSl E W B L a cap
  ow W S L cs := ∃ a cap, cs = [.slice a L.length cap] ∧ OwSl E W S L a cap
  mm := mmL E
  mv := mmL E
  cm := sumL E.cm
  cv := sumL E.cm
  sz L := L.length + sumL E.sz L
theorem RdSl.below {α : Type} {E : Rp α} (hE : Ok E) {W W' : World} {B : Nat} {L : List α} {a : Option Addr} {cap : Nat} (h : RdSl E W B L a cap) (hb : Below B W W') : RdSl E W' B L a cap := by
  obtain ⟨h1, h2, h3⟩ := h
  refine ⟨h1, h2, fun hn => ?_⟩
  obtain ⟨g, o, ha, hg, hc⟩ := h3 hn
  refine ⟨g, o, ha, hg, fun i x hx => ?_⟩
  obtain ⟨us, hu, hr⟩ := hc i x hx
  exact ⟨us, hu.keep (hb.block g hg), hE.rd_below hr hb⟩
theorem RdSl.more {α : Type} {E : Rp α} (hE : Ok E) {W : World} {B B' : Nat} {L : List α} {a : Option Addr} {cap : Nat} (h : RdSl E W B L a cap) (hb : B ≤ B') : RdSl E W B' L a cap := by
  obtain ⟨h1, h2, h3⟩ := h
  refine ⟨h1, h2, fun hn => ?_⟩
  obtain ⟨g, o, ha, hg, hc⟩ := h3 hn
  refine ⟨g, o, ha, Nat.lt_of_lt_of_le hg hb, fun i x hx => ?_⟩
  obtain ⟨us, hu, hr⟩ := hc i x hx
  exact ⟨us, hu, hE.rd_more hr hb⟩
theorem OwSl.keep {α : Type} {E : Rp α} (hE : Ok E) {W W' : World} {S : Nat → Prop} {L : List α} {a : Option Addr} {cap : Nat} (h : OwSl E W S L a cap) (hb : ∀ k, S k → W'.heap[k]? = W.heap[k]?) : OwSl E W' S L a cap := by
  obtain ⟨h1, h2, h3⟩ := h
  refine ⟨h1, h2, fun hn => ?_⟩
  obtain ⟨g, Sf, ha, hg, hf, hs, hd, hc⟩ := h3 hn
  refine ⟨g, Sf, ha, hg, fun j => (World.frozen?_of_block (a := ⟨g, j, none⟩) (hb g hg)).trans (hf j), hs, hd, fun i x hx => ?_⟩
  obtain ⟨us, hu, hr⟩ := hc i x hx
  exact ⟨us, hu.keep (hb g hg), hE.ow_keep hr (fun k hk => hb k (hs i k hk).1)⟩
theorem OwSl.more {α : Type} {E : Rp α} {W : World} {S T : Nat → Prop} {L : List α} {a : Option Addr} {cap : Nat} (h : OwSl E W S L a cap) (hT : ∀ k, S k → T k) : OwSl E W T L a cap := by
  obtain ⟨h1, h2, h3⟩ := h
  refine ⟨h1, h2, fun hn => ?_⟩
  obtain ⟨g, Sf, ha, hg, hf, hs, hd, hc⟩ := h3 hn
  exact ⟨g, Sf, ha, hT g hg, hf, fun i k hk => ⟨hT k (hs i k hk).1, (hs i k hk).2⟩, hd, hc⟩
theorem OwSl.rd {α : Type} {E : Rp α} (hE : Ok E) {W : World} {S : Nat → Prop} {B : Nat} {L : List α} {a : Option Addr} {cap : Nat} (h : OwSl E W S L a cap) (hB : ∀ k, S k → k < B) : RdSl E W B L a cap := by
  obtain ⟨h1, h2, h3⟩ := h
  refine ⟨h1, h2, fun hn => ?_⟩
  obtain ⟨g, Sf, ha, hg, hf, hs, hd, hc⟩ := h3 hn
  refine ⟨g, 0, ha, hB g hg, fun i x hx => ?_⟩
  obtain ⟨us, hu, hr⟩ := hc i x hx
  exact ⟨us, by rw [Nat.zero_add]; exact hu, hE.ow_rd hr (fun k hk => hB k (hs i k hk).1)⟩
theorem Sl_ok {α : Type} {E : Rp α} (hE : Ok E) : Ok (Sl E) where
  rd_len h := by obtain ⟨a, cap, rfl, _⟩ := h; rfl
  ow_len h := by obtain ⟨a, cap, rfl, _⟩ := h; rfl
  rd_below h hb := by obtain ⟨a, cap, rfl, h⟩ := h; exact ⟨a, cap, rfl, h.below hE hb⟩
  rd_more h hb := by obtain ⟨a, cap, rfl, h⟩ := h; exact ⟨a, cap, rfl, h.more hE hb⟩
  ow_keep h hb := by obtain ⟨a, cap, rfl, h⟩ := h; exact ⟨a, cap, rfl, h.keep hE hb⟩
  ow_more h hT := by obtain ⟨a, cap, rfl, h⟩ := h; exact ⟨a, cap, rfl, h.more hT⟩
  ow_rd h hB := by obtain ⟨a, cap, rfl, h⟩ := h; exact ⟨a, cap, rfl, h.rd hE hB⟩
  one h u hu := by obtain ⟨a, cap, rfl, h⟩ := h; simp at hu; subst hu; rfl
theorem RdSl.at_ {α : Type} {E : Rp α} {W : World} {B : Nat} {L : List α} {a : Option Addr} {cap : Nat} (h : RdSl E W B L a cap) {i : Nat} {x : α} (hx : L[i]? = some x) :
    ∃ g o us, a = some ⟨g, o, none⟩ ∧ g < B ∧ CellsAt W g (o + i * E.size) us ∧ E.rd W B x us := by
  have hi := (List.getElem?_eq_some_iff.1 hx).1
  obtain ⟨g, o, ha, hg, hc⟩ := h.2.2 (by omega)
  obtain ⟨us, hu, hr⟩ := hc i x hx
  exact ⟨g, o, us, ha, hg, hu, hr⟩
end Go.Proofs.Ytfciojkibklkfaa.RepC
end
section
namespace Go.Proofs.Ytfciojkibklkfaa.RepC
open Go.RowKit RowC ValC
def putCells (W : World) (g : Nat) : Nat → List Value → World
  | _, [] => W
  | o, c :: cs => putCells (W.setCell ⟨g, o, none⟩ c) g (o + 1) cs
theorem putCells_size (g : Nat) : ∀ (cs : List Value) (W : World) (o : Nat), (putCells W g o cs).heap.size = W.heap.size
  | [], _, _ => rfl
  | c :: cs, W, o => by simp only [putCells]; rw [putCells_size g cs]; simp [World.setCell]
theorem putCells_frozen (g : Nat) (p : Addr) : ∀ (cs : List Value) (W : World) (o : Nat), (putCells W g o cs).frozen? p = W.frozen? p
  | [], _, _ => rfl
  | c :: cs, W, o => by simp only [putCells]; rw [putCells_frozen g p cs]; simp
theorem putCells_block (g : Nat) {k : Nat} (hk : k ≠ g) : ∀ (cs : List Value) (W : World) (o : Nat), (putCells W g o cs).heap[k]? = W.heap[k]?
  | [], _, _ => rfl
  | c :: cs, W, o => by simp only [putCells]; rw [putCells_block g hk cs]; exact Below.heap_setCell _ _ _ _ hk
theorem putCells_off (g : Nat) : ∀ (cs : List Value) (W : World) (o : Nat), Off (fun x => x = g) W (putCells W g o cs)
  | [], W, _ => Off.refl _ _
  | c :: cs, W, o => by simp only [putCells]; exact (Off.setCell (S := fun x => x = g) (p := ⟨g, o, none⟩) (Off.refl _ W) rfl c).trans (putCells_off g cs _ _)
theorem putCells_other (g : Nat) {j : Nat} : ∀ (cs : List Value) (W : World) (o : Nat), (j < o ∨ o + cs.length ≤ j) → (putCells W g o cs).cell? ⟨g, j, none⟩ = W.cell? ⟨g, j, none⟩
  | [], _, _, _ => rfl
  | c :: cs, W, o, h => by
    simp only [List.length_cons] at h
    simp only [putCells]
    rw [putCells_other g cs _ _ (by omega), World.cell?_setCell_other _ _ _ _ (fun e => by injection e with _ e2; omega)]
theorem putCells_cells (g : Nat) : ∀ (cs : List Value) (W : World) (o : Nat), (∀ j, j < cs.length → ∃ u, W.cell? ⟨g, o + j, none⟩ = some u) → CellsAt (putCells W g o cs) g o cs
  | [], _, _, _ => CellsAt.nil
  | c :: cs, W, o, h => by
    simp only [putCells]
    refine CellsAt.cons.2 ⟨?_, putCells_cells g cs _ _ fun j hj => ?_⟩
    · obtain ⟨u, hu⟩ := h 0 (by simp)
      rw [putCells_other g cs _ _ (by omega)]
      exact World.cell?_setCell_same' _ _ _ (by rw [show W.cell? ⟨g, o, none⟩ = _ from hu]; rfl)
    · obtain ⟨u, hu⟩ := h (j + 1) (by simp only [List.length_cons]; omega)
      rw [World.cell?_setCell_other _ _ _ _ (fun e => by injection e with _ e2; omega), show o + 1 + j = o + (j + 1) by omega]
      exact ⟨u, hu⟩
structure Upd (W W' : World) (g lo hi : Nat) (T : Nat → Prop) : Prop where
  size : W.heap.size ≤ W'.heap.size
  block : ∀ k, k < W.heap.size → k ≠ g → ¬ T k → W'.heap[k]? = W.heap[k]?
  cells : ∀ j, (j < lo ∨ hi ≤ j) → W'.cell? ⟨g, j, none⟩ = W.cell? ⟨g, j, none⟩
  soft : ∀ j, W'.frozen? ⟨g, j, none⟩ = W.frozen? ⟨g, j, none⟩
theorem Upd.refl (W : World) (g lo hi : Nat) (T : Nat → Prop) : Upd W W g lo hi T := ⟨Nat.le_refl _, fun _ _ _ _ => rfl, fun _ _ => rfl, fun _ => rfl⟩
theorem Upd.trans {W W' W'' : World} {g lo hi : Nat} {T : Nat → Prop} (h : Upd W W' g lo hi T) (k : Upd W' W'' g lo hi T) : Upd W W'' g lo hi T :=
  ⟨Nat.le_trans h.size k.size, fun i h1 h2 h3 => (k.block i (Nat.lt_of_lt_of_le h1 h.size) h2 h3).trans (h.block i h1 h2 h3), fun j hj => (k.cells j hj).trans (h.cells j hj), fun j => (k.soft j).trans (h.soft j)⟩
theorem Upd.set (W : World) {g lo hi o : Nat} (T : Nat → Prop) (h : lo ≤ o ∧ o < hi) (u : Value) : Upd W (W.setCell ⟨g, o, none⟩ u) g lo hi T :=
  ⟨by simp [World.setCell], fun k _ hk _ => Below.heap_setCell _ _ _ _ hk, fun j hj => World.cell?_setCell_other _ _ _ _ (fun e => by injection e with _ e2; omega), fun j => by simp⟩
theorem Upd.put (W : World) {g lo hi o : Nat} (T : Nat → Prop) {cs : List Value} (h : lo ≤ o ∧ o + cs.length ≤ hi) : Upd W (putCells W g o cs) g lo hi T :=
  ⟨by rw [putCells_size]; exact Nat.le_refl _, fun k _ hk _ => putCells_block g hk cs W o, fun j hj => putCells_other g cs W o (by omega), fun j => putCells_frozen g _ cs W o⟩
theorem Upd.below {W W' : World} {g lo hi : Nat} {T : Nat → Prop} (h : Below W.heap.size W W') (hg : g < W.heap.size) : Upd W W' g lo hi T :=
  ⟨h.size, fun k hk _ _ => h.block k hk, fun j _ => h.cell (p := ⟨g, j, none⟩) hg, fun j => h.frozen (p := ⟨g, j, none⟩) hg⟩
theorem Upd.off {W W' : World} {g lo hi : Nat} {T : Nat → Prop} (h : Off T W W') (hg : g < W.heap.size) (hT : ¬ T g) : Upd W W' g lo hi T :=
  ⟨h.size, fun k hk _ ht => h.block k hk ht, fun j _ => World.cell?_of_block (a := ⟨g, j, none⟩) (h.block g hg hT), fun j => World.frozen?_of_block (a := ⟨g, j, none⟩) (h.block g hg hT)⟩
structure Row {α : Type} (E : Rp α) (W : World) (S : Nat → Prop) (L : List α) (g : Nat) (Sf : Nat → Nat → Prop) : Prop where
  own : S g
  soft : ∀ j, W.frozen? ⟨g, j, none⟩ = false
  sub : ∀ i k, Sf i k → S k ∧ k ≠ g
  dis : ∀ i j k, i < j → Sf i k → ¬ Sf j k
  el : ∀ i x, L[i]? = some x → ∃ us, CellsAt W g (i * E.size) us ∧ E.ow W (Sf i) x us
theorem OwSl.row {α : Type} {E : Rp α} {W : World} {S : Nat → Prop} {L : List α} {a : Option Addr} {cap : Nat} (h : OwSl E W S L a cap) (hn : 0 < L.length) : ∃ g Sf, a = some ⟨g, 0, none⟩ ∧ Row E W S L g Sf := by
  obtain ⟨g, Sf, ha, hg, hf, hs, hd, hc⟩ := h.2.2 hn
  exact ⟨g, Sf, ha, hg, hf, hs, hd, hc⟩
theorem Row.slice {α : Type} {E : Rp α} {W : World} {S : Nat → Prop} {L : List α} {g : Nat} {Sf : Nat → Nat → Prop} (h : Row E W S L g Sf) {cap : Nat} (h1 : L.length ≤ cap) (h2 : cap ≤ maxLen) : OwSl E W S L (some ⟨g, 0, none⟩) cap :=
  ⟨h1, h2, fun _ => ⟨g, Sf, rfl, h.own, h.soft, h.sub, h.dis, h.el⟩⟩
theorem mul_lt_el {i j p s : Nat} (hp : p < s) (hij : i ≠ j) : j * s + p < i * s ∨ (i + 1) * s ≤ j * s + p := by
  rcases Nat.lt_or_gt_of_ne hij with h | h
  · right
    have := Nat.mul_le_mul_right s (show i + 1 ≤ j by omega)
    omega
  · left
    have := Nat.mul_le_mul_right s (show j + 1 ≤ i by omega)
    rw [Nat.add_mul] at this
    omega
theorem Row.set {α : Type} {E : Rp α} (hE : Ok E) {W W' : World} {S : Nat → Prop} {L : List α} {g i : Nat} {Sf : Nat → Nat → Prop} {x : α} {us : List Value} (h : Row E W S L g Sf) (hS : ∀ k, S k → k < W.heap.size) (hU : Upd W W' g (i * E.size) ((i + 1) * E.size) (Sf i))
    (hc : CellsAt W' g (i * E.size) us) (hr : E.ow W' (Sf i) x us) : Row E W' S (L.set i x) g Sf := by
  refine ⟨h.own, fun j => (hU.soft j).trans (h.soft j), h.sub, h.dis, fun j y hy => ?_⟩
  by_cases e : i = j
  · subst e
    rw [List.getElem?_set] at hy
    split at hy
    · split at hy
      · injection hy with hy
        subst hy
        exact ⟨us, hc, hr⟩
      · cases hy
    · exact absurd rfl ‹_›
  · rw [List.getElem?_set_ne e] at hy
    obtain ⟨vs, hv, hw⟩ := h.el j y hy
    refine ⟨vs, fun p c hp => ?_, hE.ow_keep hw fun k hk => hU.block k (hS k (h.sub j k hk).1) (h.sub j k hk).2 (fun hi => ?_)⟩
    · have hl := (List.getElem?_eq_some_iff.1 hp).1
      rw [hE.ow_len hw] at hl
      rw [hU.cells _ (mul_lt_el hl e)]
      exact hv p c hp
    · rcases Nat.lt_or_gt_of_ne e with e2 | e2
      · exact h.dis i j k e2 hi hk
      · exact h.dis j i k e2 hk hi
structure Fil {α : Type} (E : Rp α) (w W : World) (L : List α) (g : Nat) (Sf : Nat → Nat → Prop) (k : Nat) : Prop where
  el : ∀ i x, i < k → L[i]? = some x → ∃ us, CellsAt W g (i * E.size) us ∧ E.ow W (Sf i) x us
  there : ∀ j, j < L.length * E.size → ∃ u, W.cell? ⟨g, j, none⟩ = some u
  soft : ∀ j, W.frozen? ⟨g, j, none⟩ = false
  sub : ∀ i q, Sf i q → g < q ∧ q < W.heap.size ∧ i < k
  dis : ∀ i j q, i < j → Sf i q → ¬ Sf j q
  base : w.heap.size ≤ g
  lt : g < W.heap.size
  below : Below g w W
theorem Fil.new {α : Type} {E : Rp α} {w : World} {L : List α} {cs : Array Value} {t : TypeId} (hs : cs.size = L.length * E.size) : Fil E w (w.alloc (.cells cs t)) L w.heap.size (fun _ _ => False) 0 :=
  ⟨fun i x h => absurd h (Nat.not_lt_zero _), fun j hj => ⟨cs[j]'(by omega), by simp [World.cell?_alloc_new, show j < cs.size by omega]⟩, fun j => by simp, fun i q h => h.elim, fun i j q _ h => h.elim, Nat.le_refl _, by simp, (Below.refl _ _).alloc (Nat.le_refl _) _⟩
theorem Fil.put {α : Type} {E : Rp α} (hE : Ok E) {w W W1 : World} {L : List α} {g k : Nat} {Sf : Nat → Nat → Prop} {x : α} {us : List Value} (h : Fil E w W L g Sf k) (hx : L[k]? = some x) (hb : Below W.heap.size W W1) (hr : E.ow W1 (Rg W.heap.size W1.heap.size) x us) :
    Fil E w (putCells W1 g (k * E.size) us) L g (fun i q => if i = k then Rg W.heap.size W1.heap.size q else Sf i q) (k + 1) := by
  have hk := (List.getElem?_eq_some_iff.1 hx).1
  have hlen := hE.ow_len hr
  have hsz := hb.size
  have hgl := h.lt
  have hmul : (k + 1) * E.size ≤ L.length * E.size := Nat.mul_le_mul_right _ (by omega)
  rw [Nat.add_mul, Nat.one_mul] at hmul
  have there1 : ∀ j, j < L.length * E.size → ∃ u, W1.cell? ⟨g, j, none⟩ = some u := fun j hj => by
    obtain ⟨u, hu⟩ := h.there j hj
    exact ⟨u, (hb.cell (p := ⟨g, j, none⟩) hgl).trans hu⟩
  have apart : ∀ q, Rg W.heap.size W1.heap.size q → q ≠ g := fun q hq => by unfold Rg at hq; omega
  refine ⟨fun i y hi hy => ?_, fun j hj => ?_, fun j => ?_, fun i q hq => ?_, fun i j q hij hi => ?_, h.base, by rw [putCells_size]; omega, ?_⟩
  · by_cases e : i = k
    · subst e
      rw [hx] at hy
      injection hy with hy
      subst hy
      refine ⟨us, putCells_cells g us W1 _ fun j hj => there1 _ (by rw [hlen] at hj; omega), ?_⟩
      simp only [if_true]
      exact hE.ow_keep hr fun q hq => putCells_block g (apart q hq) us W1 _
    · obtain ⟨vs, hv, hw⟩ := h.el i y (by omega) hy
      refine ⟨vs, fun p c hp => ?_, ?_⟩
      · have hl := (List.getElem?_eq_some_iff.1 hp).1
        rw [hE.ow_len hw] at hl
        have h1 := mul_lt_el (i := k) (j := i) hl (Ne.symm e)
        rw [Nat.add_mul, Nat.one_mul] at h1
        rw [putCells_other g us W1 _ (by omega)]
        exact (hb.cell (p := ⟨g, _, none⟩) hgl).trans (hv p c hp)
      · simp only [e, if_false]
        refine hE.ow_keep (hE.ow_keep hw fun q hq => hb.block q (h.sub i q hq).2.1) fun q hq => putCells_block g (by have := (h.sub i q hq).1; omega) us W1 _
  · obtain ⟨u, hu⟩ := there1 j hj
    by_cases hin : j < k * E.size ∨ k * E.size + us.length ≤ j
    · exact ⟨u, (putCells_other g us W1 _ hin).trans hu⟩
    · have hc := putCells_cells g us W1 (k * E.size) fun j hj => there1 _ (by rw [hlen] at hj; omega)
      have hj2 : j - k * E.size < us.length := by omega
      refine ⟨us[j - k * E.size], ?_⟩
      have := hc (j - k * E.size) _ (List.getElem?_eq_getElem hj2)
      rw [show k * E.size + (j - k * E.size) = j by omega] at this
      exact this
  · rw [putCells_frozen]
    exact (hb.frozen (p := ⟨g, j, none⟩) hgl).trans (h.soft j)
  · rw [putCells_size]
    by_cases e : i = k
    · simp only [e, if_true] at hq
      unfold Rg at hq
      omega
    · simp only [e, if_false] at hq
      have := h.sub i q hq
      omega
  · by_cases e1 : i = k
    · subst e1
      simp only [if_true] at hi
      have e2 : j ≠ i := by omega
      simp only [e2, if_false]
      intro hj
      have := (h.sub j q hj).2.2
      omega
    · simp only [e1, if_false] at hi
      by_cases e2 : j = k
      · simp only [e2, if_true]
        have := (h.sub i q hi).2.1
        unfold Rg
        omega
      · simp only [e2, if_false]
        exact h.dis i j q hij hi
  · exact (h.below.trans (hb.mono (by omega))).trans ((putCells_off g us W1 _).below (by omega) (fun k hk => by rw [hk]; exact Nat.le_refl _))
theorem Fil.done {α : Type} {E : Rp α} {w W : World} {L : List α} {g : Nat} {Sf : Nat → Nat → Prop} (h : Fil E w W L g Sf L.length) : Row E W (Rg w.heap.size W.heap.size) L g Sf :=
  ⟨⟨h.base, h.lt⟩, h.soft, fun i k hk => ⟨⟨by have := (h.sub i k hk).1; have := h.base; omega, (h.sub i k hk).2.1⟩, by have := (h.sub i k hk).1; omega⟩, h.dis, fun i x hx => h.el i x (List.getElem?_eq_some_iff.1 hx).1 hx⟩
end Go.Proofs.Ytfciojkibklkfaa.RepC
end
section
namespace Go.Proofs.Ytfciojkibklkfaa.RepC
open Go.RowKit RowC ValC
set_option linter.unusedVariables false
def Blk (w : World) (g : Nat) (t : TypeId) (cs : Array Value) : Prop := w.heap[g]? = some (.cells cs t (0, 0))
section
variable {w w' : World} {g : Nat} {t : TypeId} {cs : Array Value}
theorem Blk.lt (h : Blk w g t cs) : g < w.heap.size := (Array.getElem?_eq_some_iff.1 h).1
theorem Blk.at_ (h : Blk w g t cs) (i : Nat) {v : Value} (hv : cs[i]? = some v) : w.cell? ⟨g, i, none⟩ = some v := (cell_of_row w g i cs t (0, 0) h).trans hv
theorem Blk.soft (h : Blk w g t cs) (i : Nat) : w.frozen? ⟨g, i, none⟩ = false := by
  unfold Blk at h
  simp [World.frozen?, h]
theorem Blk.new (w : World) (t : TypeId) (cs : Array Value) : Blk (w.alloc (.cells cs t)) w.heap.size t cs := heap_alloc_new w _
theorem Blk.alloc (h : Blk w g t cs) (o : Obj) : Blk (w.alloc o) g t cs := (Below.heap_alloc w o g h.lt).trans h
theorem Blk.set (h : Blk w g t cs) (i : Nat) (u : Value) : Blk (w.setCell ⟨g, i, none⟩ u) g t (cs.setIfInBounds i u) := by
  unfold Blk at h ⊢
  simp [World.setCell, Array.getElem?_modify, h]
theorem Blk.far (h : Blk w g t cs) {b o : Nat} (hp : g ≠ b) (u : Value) : Blk (w.setCell ⟨b, o, none⟩ u) g t cs := (Below.heap_setCell w ⟨b, o, none⟩ u g hp).trans h
theorem Blk.call (h : Blk w g t cs) (hb : Below w.heap.size w w') : Blk w' g t cs := (hb.block g h.lt).trans h
theorem Blk.as (h : Blk w g t cs) {ds : Array Value} (e : cs = ds) : Blk w g t ds := e ▸ h
end
def MarkR {α : Type} (E : Rp α) (S : Nat → Prop) (L : List α) (a : Option Addr) (cap : Nat) (k : Int) (w : World) (e : Ending) (w' : World) : Prop :=
  ∃ L' k', e = .returned (.int .i64 k') ∧ L'.length = L.length ∧ mmL E L' k k' ∧ k' = k + (sumL E.cm L : Nat) ∧ OwSl E w' S L' a cap ∧ Off S w w'
structure Mkd {α : Type} (E : Rp α) (W wr : World) (S : Nat → Prop) (L : List α) (g : Nat) (Sf : Nat → Nat → Prop) (k q : Int) (j : Nat) (M : List α) : Prop where
  len : M.length = L.length
  rest : ∀ p, j ≤ p → M[p]? = L[p]?
  mm : mmL E (M.take j) k q
  num : q = k + (sumL E.cm (L.take j) : Nat)
  row : Row E wr S M g Sf
  off : Off S W wr
theorem Mkd.start {α : Type} {E : Rp α} {W : World} {S : Nat → Prop} {L : List α} {g : Nat} {Sf : Nat → Nat → Prop} {k : Int} (h : Row E W S L g Sf) : Mkd E W W S L g Sf k k 0 L := ⟨rfl, fun _ _ => rfl, rfl, by simp [sumL], h, Off.refl _ _⟩
theorem Mkd.done {α : Type} {E : Rp α} {W wr : World} {S : Nat → Prop} {L M : List α} {g cap : Nat} {Sf : Nat → Nat → Prop} {k q : Int} (h : Mkd E W wr S L g Sf k q L.length M) (h1 : L.length ≤ cap) (h2 : cap ≤ maxLen) : MarkR E S L (some ⟨g, 0, none⟩) cap k W (.returned (.int .i64 q)) wr := by
  refine ⟨M, q, rfl, h.len, ?_, ?_, h.row.slice (by rw [h.len]; exact h1) h2, h.off⟩
  · have := h.mm
    rw [← h.len, List.take_length] at this
    exact this
  · have := h.num
    rw [List.take_length] at this
    exact this
theorem Mkd.el {α : Type} {E : Rp α} {W wr : World} {S : Nat → Prop} {L M : List α} {g j : Nat} {Sf : Nat → Nat → Prop} {k q : Int} {x : α} (h : Mkd E W wr S L g Sf k q j M) (hx : L[j]? = some x) : ∃ us, CellsAt wr g (j * E.size) us ∧ E.ow wr (Sf j) x us :=
  h.row.el j x (by rw [h.rest j (Nat.le_refl _)]; exact hx)
theorem MarkR.none_ {α : Type} {E : Rp α} {W : World} {S : Nat → Prop} {L : List α} {a : Option Addr} {cap : Nat} {k : Int} (h : OwSl E W S L a cap) (h0 : L.length = 0) : MarkR E S L a cap k W (.returned (.int .i64 k)) W := by
  obtain rfl := List.eq_nil_of_length_eq_zero h0
  exact ⟨[], k, rfl, rfl, rfl, by simp [sumL], h, Off.refl _ _⟩
def NewV {α : Type} (E : Rp α) (d : α) (w : World) (e : Ending) (w' : World) : Prop := ∃ us : List Value, e = .returned (.agg us.toArray) ∧ E.ow w' (Rg w.heap.size w'.heap.size) d us ∧ Below w.heap.size w w'
theorem newV_elim {α : Type} {E : Rp α} {d : α} {w : World} {e : Ending} {w' : World} (h : NewV E d w e w') : ∃ us : List Value, e = .returned (.agg us.toArray) ∧ E.ow w' (Rg w.heap.size w'.heap.size) d us ∧ Below w.heap.size w w' := h
def NewS {α : Type} (E : Rp α) (L : List α) (w : World) (e : Ending) (w' : World) : Prop := ∃ a cap, e = .returned (.slice a L.length cap) ∧ OwSl E w' (Rg w.heap.size w'.heap.size) L a cap ∧ Below w.heap.size w w'
theorem newS_elim {α : Type} {E : Rp α} {L : List α} {w : World} {e : Ending} {w' : World} (h : NewS E L w e w') : ∃ a cap, e = .returned (.slice a L.length cap) ∧ OwSl E w' (Rg w.heap.size w'.heap.size) L a cap ∧ Below w.heap.size w w' := h
theorem Fil.news {α : Type} {E : Rp α} {w W : World} {L : List α} {Sf : Nat → Nat → Prop} (h : Fil E w W L w.heap.size Sf L.length) (hn : L.length ≤ maxLen) : NewS E L w (.returned (.slice (some ⟨w.heap.size, 0, none⟩) L.length L.length)) W :=
  ⟨_, _, rfl, h.done.slice (Nat.le_refl _) hn, h.below⟩
theorem el_some {α : Type} {L : List α} {k : Nat} (h : k < L.length) : ∃ x, L[k]? = some x := ⟨L[k], List.getElem?_eq_getElem h⟩
theorem el_lt {α : Type} {L : List α} {k : Nat} {x : α} (h : L[k]? = some x) : k < L.length := (List.getElem?_eq_some_iff.1 h).1
end Go.Proofs.Ytfciojkibklkfaa.RepC
end
section
namespace Go.Proofs.Ytfciojkibklkfaa.RepC
open Go.RowKit RowC ValC
set_option linter.unusedVariables false
set_option linter.unusedSimpArgs false
theorem Blk.off {w w' : World} {g : Nat} {t : TypeId} {cs : Array Value} {S : Nat → Prop} (h : Blk w g t cs) (ho : Off S w w') (hg : g < w.heap.size) (hS : ¬ S g) : Blk w' g t cs := (ho.block g hg hS).trans h
end Go.Proofs.Ytfciojkibklkfaa.RepC
end
section
namespace Go.Proofs.Ytfciojkibklkfaa.RepC
open Go.RowKit RowC ValC
set_option linter.unusedVariables false
set_option linter.unusedSimpArgs false
abbrev D_Span : Type := (Int) × (Int)
def R_Span : Rp D_Span := (Pr I I)
theorem R_Span_ok : Ok R_Span := (Pr_ok I_ok I_ok)
theorem rd_Span {W : World} {B : Nat} {x0 : Int} {x1 : Int} {cs : List Value} (h : R_Span.rd W B (x0, x1) cs) : cs = [.int .i64 x0, .int .i64 x1] := by
  obtain ⟨u1, v1, rfl, h1, g1⟩ := h
  obtain rfl : u1 = [_] := h1
  obtain rfl : v1 = [_] := g1
  rfl
theorem mkrd_Span {W : World} {B : Nat} {x0 : Int} {x1 : Int}  : R_Span.rd W B (x0, x1) [.int .i64 x0, .int .i64 x1] := ⟨[.int .i64 x0], [.int .i64 x1], rfl, rfl, rfl⟩
theorem mkow_Span {W : World} {S : Nat → Prop} {x0 : Int} {x1 : Int}  : R_Span.ow W S (x0, x1) [.int .i64 x0, .int .i64 x1] := ⟨[.int .i64 x0], [.int .i64 x1], (fun _ => False), (fun _ => False), rfl, (fun k h => h.elim), (fun k h => h.elim), (fun k h h' => h.elim), rfl, rfl⟩
theorem ow0_Span {W : World} {S : Nat → Prop} {x0 : Int} {x1 : Int} {cs : List Value} (h : R_Span.ow W S (x0, x1) cs) : cs = [.int .i64 x0, .int .i64 x1] := by
  obtain ⟨u1, v1, A1, B1, rfl, sa1, sb1, dd1, h1, g1⟩ := h
  obtain rfl : u1 = [_] := h1
  obtain rfl : v1 = [_] := g1
  rfl
abbrev D_Node : Type := (Int) × (List (D_Span))
def R_Node : Rp D_Node := (Pr I (Sl R_Span))
theorem R_Node_ok : Ok R_Node := (Pr_ok I_ok (Sl_ok R_Span_ok))
theorem rd_Node {W : World} {B : Nat} {x0 : Int} {L0 : List (D_Span)} {cs : List Value} (h : R_Node.rd W B (x0, L0) cs) : ∃ a0 c0, cs = [.int .i64 x0, .slice a0 L0.length c0] ∧ RdSl R_Span W B L0 a0 c0 := by
  obtain ⟨u1, v1, rfl, h1, g1⟩ := h
  obtain rfl : u1 = [_] := h1
  obtain ⟨a0, c0, rfl, k_L0⟩ := g1
  exact ⟨a0, c0, rfl, k_L0⟩
theorem mkow_Node {W : World} {S : Nat → Prop} {x0 : Int} {L0 : List (D_Span)} {a0 : Option Addr} {c0 : Nat} {T0 : Nat → Prop} (hs0 : ∀ k, T0 k → S k) (h_L0 : OwSl R_Span W T0 L0 a0 c0) : R_Node.ow W S (x0, L0) [.int .i64 x0, .slice a0 L0.length c0] := ⟨[.int .i64 x0], [.slice a0 L0.length c0], (fun _ => False), T0, rfl, (fun k h => h.elim), (fun k h => hs0 k h), (fun k h h' => h.elim), rfl, ⟨a0, c0, rfl, h_L0⟩⟩
theorem ow_Node {W : World} {S : Nat → Prop} {x0 : Int} {L0 : List (D_Span)} {cs : List Value} (h : R_Node.ow W S (x0, L0) cs) : ∃ a0 c0, ∃ T0 : Nat → Prop, cs = [.int .i64 x0, .slice a0 L0.length c0] ∧ (∀ k, T0 k → S k) ∧ OwSl R_Span W T0 L0 a0 c0 := by
  obtain ⟨u1, v1, A1, B1, rfl, sa1, sb1, dd1, h1, g1⟩ := h
  obtain rfl : u1 = [_] := h1
  obtain ⟨a0, c0, rfl, k_L0⟩ := g1
  exact ⟨a0, c0, B1, rfl, fun k h => sb1 k (h), k_L0⟩
abbrev D_NodesOut : Type := (List (D_Node)) × (Int)
def R_NodesOut : Rp D_NodesOut := (Pr (Sl R_Node) I)
theorem R_NodesOut_ok : Ok R_NodesOut := (Pr_ok (Sl_ok R_Node_ok) I_ok)
theorem mkow_NodesOut {W : World} {S : Nat → Prop} {L0 : List (D_Node)} {x1 : Int} {a0 : Option Addr} {c0 : Nat} {T0 : Nat → Prop} (hs0 : ∀ k, T0 k → S k) (h_L0 : OwSl R_Node W T0 L0 a0 c0) : R_NodesOut.ow W S (L0, x1) [.slice a0 L0.length c0, .int .i64 x1] := ⟨[.slice a0 L0.length c0], [.int .i64 x1], T0, (fun _ => False), rfl, (fun k h => hs0 k h), (fun k h => h.elim), (fun k h h' => h'.elim), ⟨a0, c0, rfl, h_L0⟩, rfl⟩
theorem ow_NodesOut {W : World} {S : Nat → Prop} {L0 : List (D_Node)} {x1 : Int} {cs : List Value} (h : R_NodesOut.ow W S (L0, x1) cs) : ∃ a0 c0, ∃ T0 : Nat → Prop, cs = [.slice a0 L0.length c0, .int .i64 x1] ∧ (∀ k, T0 k → S k) ∧ OwSl R_Node W T0 L0 a0 c0 := by
  obtain ⟨u1, v1, A1, B1, rfl, sa1, sb1, dd1, h1, g1⟩ := h
  obtain ⟨a0, c0, rfl, k_L0⟩ := h1
  obtain rfl : v1 = [_] := g1
  exact ⟨a0, c0, A1, rfl, fun k h => sa1 k (h), k_L0⟩
theorem size_SpanS : (R_Span).size = 2 := rfl
def zs_SpanS (n : Nat) : Array Value := madeCells #[.int .i64 0, .int .i64 0] (n * 2)
theorem zs_SpanS_size (n : Nat) : (zs_SpanS n).size = n * (R_Span).size := by unfold zs_SpanS; simp [madeCells, size_SpanS]
theorem make_SpanS (n : Nat) (hn : n ≤ 1048576) : ∀ W : World, (Instr.makeSlice 39 (.int .i64 (n : Int)) (.int .i64 (n : Int))).run Try.prog W = .ok (.slice (some ⟨W.heap.size, 0, none⟩) n n) (W.alloc (.cells (zs_SpanS n) 25)) := by
  intro W
  obtain ⟨i, hi, hz, hs, hb⟩ : ∃ i, Try.prog.info? 25 = some i ∧ i.zero = some (.agg #[.int .i64 0, .int .i64 0]) ∧ i.size = 2 ∧ i.bytes = 16 := by
    have h : (Try.prog.info? 25).map (fun i => (i.zero, i.size, i.bytes)) = some (some (.agg #[.int .i64 0, .int .i64 0]), 2, 16) := by kernel_rfl
    cases hx : Try.prog.info? 25 with
    | none => rw [hx] at h; simp at h
    | some i => rw [hx] at h; simp at h; exact ⟨i, rfl, h.1, h.2.1, h.2.2⟩
  have hr := run_make (P := Try.prog) W 39 25 i _ Try.underlying39 hi hz .i64 .i64 n n (by omega) (by omega) (by rw [hb]; omega) (by omega)
  rw [hs] at hr
  simp only [Int.toNat_natCast] at hr
  exact hr
theorem size_NodeS : (R_Node).size = 2 := rfl
def zs_NodeS (n : Nat) : Array Value := madeCells #[.int .i64 0, .slice none 0 0] (n * 2)
end Go.Proofs.Ytfciojkibklkfaa.RepC
end
section
namespace Go.Proofs.Ytfciojkibklkfaa.RepC
open Go.RowKit RowC ValC SpanC KeptC
set_option linter.unusedVariables false
set_option linter.unusedSimpArgs false
def gt (L : List D_Span) (i : Nat) : Int × Int := (L[i]?).getD (0, 0)
theorem gt_at {L : List D_Span} {i : Nat} {x : D_Span} (h : L[i]? = some x) : gt L i = x := by unfold gt; rw [h]; rfl
theorem pa_of {W : World} {B : Nat} {L : List D_Span} {a : Option Addr} {cap : Nat} (h : RdSl R_Span W B L a cap) (hB : B ≤ W.heap.size) : PA W a L.length (gt L) := fun i hi => by
  obtain ⟨x, hx⟩ := el_some hi
  obtain ⟨g, o, us, rfl, hg, hu, hr⟩ := h.at_ hx
  obtain ⟨x0, x1⟩ := x
  obtain rfl := rd_Span hr
  rw [gt_at hx]
  exact ⟨g, o, rfl, Nat.lt_of_lt_of_le hg hB, by simpa [size_SpanS] using hu 0 _ rfl, by simpa [size_SpanS, Nat.add_assoc] using hu 1 _ rfl⟩
def okN (x : D_Node) : Prop := isB x.1 1 3 = true ∧ x.2.length ≤ 4 ∧ SpR x.2.length (gt x.2)
def NodesR (L : List D_Node) : Prop := (1 ≤ L.length ∧ L.length ≤ 6) ∧ ∀ x ∈ L, okN x
open Classical in
noncomputable def nodesB (L : List D_Node) : Bool := decide (NodesR L)
open Classical in
theorem nodesB_iff {L : List D_Node} : nodesB L = true ↔ NodesR L := by unfold nodesB; simp
theorem resB_is {P : Prop} {b : Bool} {w w' : World} {e : Ending} (hb : b = true ↔ P) (h : ResB P w e w') : IsB b w e w' := by
  obtain ⟨c, rfl, hc, hB⟩ := h
  obtain rfl : c = b := by
    cases c <;> cases b <;> first | rfl | exact absurd (hc.2 (hb.1 rfl)) (by decide) | exact absurd (hb.2 (hc.1 rfl)) (by decide)
  exact ⟨rfl, hB⟩
theorem mv_rd {α : Type} {E : Rp α} (hE : Ok E) {L : List α} {a : Option Addr} {cap : Nat} {w w' : World} (h : RdSl E w w.heap.size L a cap) (hb : Below w.heap.size w w') : RdSl E w' w'.heap.size L a cap := (h.below hE hb).more hE hb.size
def okTo (L : List D_Node) (k : Nat) : Prop := ∀ i x, i < k → L[i]? = some x → okN x
theorem okTo_zero {L : List D_Node} : okTo L 0 := fun i x h => absurd h (Nat.not_lt_zero _)
theorem okTo_step {L : List D_Node} {k : Nat} {x : D_Node} (h : okTo L k) (hx : L[k]? = some x) (hk : okN x) : okTo L (k + 1) := fun i y hi hy => by
  rcases Nat.lt_succ_iff_lt_or_eq.1 hi with h1 | h1
  · exact h i y h1 hy
  · subst h1; rw [hx] at hy; cases hy; exact hk
theorem nodesR_all {L : List D_Node} (h1 : 1 ≤ L.length) (h2 : L.length ≤ 6) (h : okTo L L.length) : NodesR L := ⟨⟨h1, h2⟩, fun x hx => by
  obtain ⟨i, hi, e⟩ := List.getElem_of_mem hx
  exact h i x hi (by rw [List.getElem?_eq_getElem hi, e])⟩
theorem nodesR_at {L : List D_Node} (h : NodesR L) {k : Nat} {x : D_Node} (hx : L[k]? = some x) : okN x := h.2 x (List.mem_of_getElem? hx)
end Go.Proofs.Ytfciojkibklkfaa.RepC
end
section
namespace Go.Proofs.Ytfciojkibklkfaa.RepC
open Go.RowKit RowC ValC SpanC KeptC
set_option linter.unusedVariables false
set_option linter.unusedSimpArgs false
def newV (n : Int) : List D_Node := if isB n 1 6 = true then List.replicate n.toNat (1, []) else []
def rowOf (st : Int) (x : D_Node) : List D_Span := if st ≤ x.1 then [(0, 1000000)] else x.2
noncomputable def rowsV (st : Int) (L : List D_Node) : List (List D_Span) := if nodesB L = true then L.map (rowOf st) else []
def passN (now : Int) (x : D_Node) : D_Node := (x.1, x.2.filter (fun s => decide (now < s.2)))
noncomputable def passV (L : List D_Node) (now : Int) : List D_Node := if nodesB L = true then L.map (passN now) else []
noncomputable def chgV (L : List D_Node) (n : Int) (ok : Bool) (chg : D_Node → Int × D_Node) : D_NodesOut :=
  if 400 < L.length then ([], 2)
  else if (nodesB L && ok) = false then ([], 1)
  else if isB n 0 ((L.length : Int) - 1) = false then ([], 6)
  else match L[n.toNat]? with
    | none => ([], 6)
    | some x => if (chg x).1 = 0 then (L.set n.toNat (chg x).2, 0) else ([], (chg x).1)
def setN (st : Int) (x : D_Node) : Int × D_Node := if x.1 = st then (10, x) else (0, (st, x.2))
def putL (L : List D_Span) (x : D_Span) : List D_Span := L.takeWhile (fun y => decide (y.2 ≤ x.1)) ++ x :: L.dropWhile (fun y => decide (y.2 ≤ x.1))
open Classical in
noncomputable def putN (x : D_Span) (now : Int) (d : D_Node) : Int × D_Node :=
  if (decide (x.1 ≤ now) || decide (now + 40 < x.2)) = true then (8, d)
  else if ¬ FreeP d.2.length (gt d.2) x.1 x.2 then (7, d)
  else if d.2.length = 4 then (9, d)
  else (0, (d.1, putL d.2 x))
def cutN (frm : Int) (d : D_Node) : Int × D_Node := if (d.2.filter (fun s => !decide (s.1 = frm))).length = d.2.length then (6, d) else (0, (d.1, d.2.filter (fun s => !decide (s.1 = frm))))
theorem gt_cons {x : D_Span} {L : List D_Span} {i : Nat} : gt (x :: L) (i + 1) = gt L i := by simp [gt]
theorem place_tw {a : Int} : ∀ {L : List D_Span} {p : Nat}, PlaceP L.length (gt L) a p → L.takeWhile (fun y => decide (y.2 ≤ a)) = L.take p ∧ L.dropWhile (fun y => decide (y.2 ≤ a)) = L.drop p
  | [], p, h => by
    have : p = 0 := by have := h.1; simpa using this
    subst this
    simp
  | x :: L, p, h => by
    cases p with
    | zero =>
      have h0 : ¬ x.2 ≤ a := h.2.2 (by simp)
      simp [List.takeWhile, List.dropWhile, h0]
    | succ p =>
      have h0 : x.2 ≤ a := h.2.1 0 (by omega)
      have hp : PlaceP L.length (gt L) a p := ⟨by have := h.1; simpa using this, fun j hj => by have := h.2.1 (j + 1) (by omega); rwa [gt_cons] at this, fun hj => by have := h.2.2 (by simpa using hj); rwa [gt_cons] at this⟩
      obtain ⟨h1, h2⟩ := place_tw hp
      simp [List.takeWhile, List.dropWhile, h0, h1, h2]
theorem putL_eq {L : List D_Span} {x : D_Span} {p : Nat} (h : PlaceP L.length (gt L) x.1 p) : putL L x = L.take p ++ x :: L.drop p := by
  obtain ⟨h1, h2⟩ := place_tw h
  unfold putL
  rw [h1, h2]
theorem gt_get {L : List D_Span} {i : Nat} (h : i < L.length) : L[i]? = some (gt L i) := by
  obtain ⟨x, hx⟩ := el_some h
  rw [gt_at hx, hx]
theorem spR_lt {n : Nat} {f : Nat → Int × Int} (h : SpR n f) : ∀ j i, i < j → j < n → (f i).1 < (f j).1 := by
  intro j
  induction j with
  | zero => intro i hi; exact absurd hi (Nat.not_lt_zero _)
  | succ j ih =>
    intro i hi hj
    have h1 := h.2 (j + 1) hj
    have h2 := h.2 j (by omega)
    have h3 := h1.2 (by omega)
    rw [Nat.add_sub_cancel] at h3
    have h4 := ((spB_iff _ _).1 h2.1)
    unfold spP at h4
    rcases Nat.lt_succ_iff_lt_or_eq.1 hi with h5 | h5
    · have := ih i h5 (by omega); omega
    · subst h5; omega
theorem filter_cut {q : D_Span → Bool} {L : List D_Span} {i : Nat} {x : D_Span} (hx : L[i]? = some x) (hq : q x = false) (hd : ∀ j y, L[j]? = some y → j ≠ i → q y = true) : L.filter q = L.take i ++ L.drop (i + 1) := by
  obtain ⟨hi, hxi⟩ := List.getElem?_eq_some_iff.1 hx
  have e : L = L.take i ++ x :: L.drop (i + 1) := by rw [← hxi, ← List.drop_eq_getElem_cons hi, List.take_append_drop]
  have h1 : (L.take i).filter q = L.take i := List.filter_eq_self.2 fun y hy => by
    obtain ⟨j, hj, rfl⟩ := List.getElem_of_mem hy
    have hj2 : j < i := by rw [List.length_take] at hj; omega
    exact hd j _ (by rw [List.getElem_take, List.getElem?_eq_getElem]) (by omega)
  have h2 : (L.drop (i + 1)).filter q = L.drop (i + 1) := List.filter_eq_self.2 fun y hy => by
    obtain ⟨j, hj, rfl⟩ := List.getElem_of_mem hy
    rw [List.length_drop] at hj
    exact hd (i + 1 + j) _ (by rw [List.getElem_drop, List.getElem?_eq_getElem]) (by omega)
  conv => lhs; rw [e]
  rw [List.filter_append, List.filter_cons, hq, h1, h2]
  simp
theorem cut_eq {L : List D_Span} (hS : SpR L.length (gt L)) {i : Nat} {x : D_Span} (hx : L[i]? = some x) : L.filter (fun s => !decide (s.1 = x.1)) = L.take i ++ L.drop (i + 1) := by
  refine filter_cut hx (by simp) fun j y hy hj => ?_
  have hne : y.1 ≠ x.1 := by
    rw [← gt_at hy, ← gt_at hx]
    rcases Nat.lt_or_gt_of_ne hj with h | h
    · have := spR_lt hS i j h (el_lt hx); omega
    · have := spR_lt hS j i h (el_lt hy); omega
  simp [hne]
end Go.Proofs.Ytfciojkibklkfaa.RepC
end
section
namespace Go.Proofs.Ytfciojkibklkfaa.RepC
open Go.RowKit RowC ValC
set_option linter.unusedVariables false
set_option maxRecDepth 100000
theorem app_nil {P : Program} {w : World} {t ty e : TypeId} {i : TypeInfo} (ht : P.underlying t = some (.slice e)) (hi : P.info? e = some i) (base a : Option Addr) (cap c : Nat) :
    (Builtin.append_ #[t, t] ty #[.slice base 0 cap, .slice a 0 c]).run P w = .ok (.slice base 0 cap) w := by
  have hf : (Builtin.firstCells i.size 0 (.slice a 0 c)).run P w = .ok #[] w := by
    cases a with
    | none => exact run_firstCells_none _ _ _ _ _
    | some a => exact run_firstCells_some _ _ 0 a 0 c [] (by simp) (by simp)
  cases base <;> simp [Builtin.append_, run_underlying ht, sizeOf, typeInfo, hi, Builtin.lenOf, hf, storeCells]
structure App {α : Type} (E : Rp α) (w : World) (lo hi : Nat) (T : TypeId) (v : Value) (L : List α) (xs : List Value) (Sf : Nat → Nat → Prop) : Prop where
  own : w.ownsRow lo T E.size v L.length xs
  el : ∀ i x, L[i]? = some x → ∃ us, (∀ j c, us[j]? = some c → xs[i * E.size + j]? = some c) ∧ E.ow w (Sf i) x us
  sub : ∀ i k, Sf i k → lo ≤ k ∧ k < hi ∧ v.ownBlock ≠ some k
  dis : ∀ i j k, i < j → Sf i k → ¬ Sf j k
  blk : ∀ k, v.ownBlock = some k → lo ≤ k ∧ k < hi
  le : hi ≤ w.heap.size
section
variable {α : Type} {E : Rp α} {w w' : World} {lo hi : Nat} {T : TypeId} {v : Value} {L : List α} {xs : List Value} {Sf : Nat → Nat → Prop}
theorem App.none_ (E : Rp α) (w : World) {lo hi : Nat} (T : TypeId) (h : hi ≤ w.heap.size) : App E w lo hi T (.slice none 0 0) [] [] (fun _ _ => False) :=
  ⟨⟨by simp, .inl ⟨rfl, rfl⟩⟩, fun i x hx => by simp at hx, fun i k h => h.elim, fun i j k _ h => h.elim, fun k hk => (by cases hk), h⟩
theorem App.made (E : Rp α) (w : World) (T : TypeId) : App E (w.alloc (.cells #[] T)) w.heap.size (w.heap.size + 1) T (.slice (some ⟨w.heap.size, 0, none⟩) 0 0) [] [] (fun _ _ => False) :=
  ⟨⟨by simp, .inr ⟨w.heap.size, 0, #[], rfl, Nat.le_refl _, heap_alloc_new w _, Nat.le_refl _, Nat.zero_le _, by simp, by simp⟩⟩, fun i x hx => by simp at hx, fun i k h => h.elim, fun i j k _ h => h.elim, fun k hk => (by cases hk; exact ⟨Nat.le_refl _, Nat.lt_succ_self _⟩), by simp⟩
theorem App.mv (hE : Ok E) (h : App E w lo hi T v L xs Sf) (hs : w.heap.size ≤ w'.heap.size) (hb : ∀ k, lo ≤ k → k < hi → w'.heap[k]? = w.heap[k]?) : App E w' lo hi T v L xs Sf := by
  refine ⟨?_, fun i x hx => ?_, h.sub, h.dis, h.blk, Nat.le_trans h.le hs⟩
  · obtain ⟨h1, h2⟩ := h.own
    refine ⟨h1, ?_⟩
    rcases h2 with h2 | ⟨g, cap, cur, rfl, hlo, hg, h3⟩
    · exact .inl h2
    · have := h.blk g rfl
      exact .inr ⟨g, cap, cur, rfl, hlo, (hb g this.1 this.2).trans hg, h3⟩
  · obtain ⟨us, h1, h2⟩ := h.el i x hx
    exact ⟨us, h1, hE.ow_keep h2 fun k hk => hb k (h.sub i k hk).1 (h.sub i k hk).2.1⟩
theorem App.call (hE : Ok E) (h : App E w lo hi T v L xs Sf) (hb : Below w.heap.size w w') : App E w' lo hi T v L xs Sf := h.mv hE hb.size fun k _ hk => hb.block k (Nat.lt_of_lt_of_le hk h.le)
theorem App.isSlice (h : App E w lo hi T v L xs Sf) : ∃ a cap, v = .slice a L.length cap := by
  obtain ⟨_, h2⟩ := h.own
  rcases h2 with ⟨rfl, h0⟩ | ⟨g, cap, cur, rfl, _⟩
  · exact ⟨none, 0, by rw [h0]⟩
  · exact ⟨_, _, rfl⟩
theorem App.done (h : App E w lo hi T v L xs Sf) : ∃ a cap, v = .slice a L.length cap ∧ OwSl E w (Rg lo hi) L a cap := by
  obtain ⟨hx, h2⟩ := h.own
  rcases h2 with ⟨rfl, h0⟩ | ⟨g, cap, cur, rfl, hlo, hg, hn, hm, hc, ht⟩
  · have : L = [] := List.eq_nil_of_length_eq_zero h0
    subst this
    exact ⟨none, 0, rfl, Nat.le_refl _, Nat.zero_le _, fun h => absurd h (Nat.lt_irrefl _)⟩
  · have hb := h.blk g rfl
    refine ⟨_, cap, rfl, hn, hm, fun _ => ⟨g, Sf, rfl, ⟨hb.1, hb.2⟩, fun j => by simp [World.frozen?, hg], fun i k hk => ⟨⟨(h.sub i k hk).1, (h.sub i k hk).2.1⟩, fun e => (h.sub i k hk).2.2 (by rw [e]; rfl)⟩, h.dis, fun i x hi => ?_⟩⟩
    obtain ⟨us, h1, h3⟩ := h.el i x hi
    refine ⟨us, fun j c hj => ?_, h3⟩
    have h4 := h1 j c hj
    rw [← ht] at h4
    have h5 : cur.toList[i * E.size + j]? = some c := by
      rw [List.getElem?_take] at h4
      split at h4
      · exact h4
      · cases h4
    exact (cell_of_row w g _ cur _ _ hg).trans (by simpa using h5)
theorem App.app2 {P : Program} (hE : Ok E) (h : App E w lo hi T v L xs Sf) {t ty : TypeId} {i : TypeInfo} {z : Value} {bytes : Nat} (ht : P.underlying t = some (.slice T)) (hi' : P.info? T = some i) (hz : i.zero = some z) (hsize : i.size = E.size) (hby : i.bytes = bytes) (hzs : z.cells.size = E.size) (hpos : 0 < E.size)
    {x : α} {us : List Value} {Sx : Nat → Prop} {blk c : Nat} (hrow : ∀ j u, us[j]? = some u → w.cell? ⟨blk, j, none⟩ = some u) (hx : E.ow w Sx x us) (hS : ∀ k, Sx k → hi ≤ k ∧ k < w.heap.size) (hlo : lo ≤ hi) (hL : L.length + 1 ≤ maxLen) (hLb : (L.length + 1) * bytes ≤ 140737488355328) :
    ∃ v' w' xs' Sf', (Builtin.append_ #[t, t] ty #[v, .slice (some ⟨blk, 0, none⟩) 1 c]).run P w = .ok v' w' ∧ App E w' lo w'.heap.size T v' (L ++ [x]) xs' Sf' ∧ w.grownBy w' v.ownBlock ∧ (∀ k, v'.ownBlock = some k → v.ownBlock = some k ∨ k = w.heap.size) ∧ (∀ i k, Sf' i k → Sf i k ∨ Sx k) := by
  have hul := hE.ow_len hx
  obtain ⟨v', w', hrun, hown, hg, _, hat⟩ := run_append_own_at (P := P) w lo t ty T i z E.size bytes ht hi' hz hsize hby hzs hpos v L.length xs h.own ⟨blk, 0, none⟩ 1 c us (by rw [hul, Nat.one_mul])
    (fun j u hj => by
      have hadd : (⟨blk, 0, none⟩ : Addr).add j = ⟨blk, j, none⟩ := by unfold Addr.add; split <;> simp_all
      rw [hadd]
      exact hrow j u hj) (hE.one (hE.ow_rd (B := w.heap.size) hx fun k hk => (hS k hk).2)) hL hLb (Nat.le_trans hlo h.le)
  have hsz := hg.size
  have hle := h.le
  have hxl : xs.length = L.length * E.size := h.own.1
  have hnb : ∀ k, hi ≤ k → some k ≠ v.ownBlock := fun k hk e => by have := (h.blk k e.symm).2; omega
  refine ⟨v', w', xs ++ us, fun q k => if q = L.length then Sx k else Sf q k, hrun, ⟨by rw [List.length_append]; exact hown, fun q y hy => ?_, fun q k hk => ?_, fun q r k hqr hk => ?_, fun k hk => ?_, Nat.le_refl _⟩, hg, fun k hk => ?_, fun q k hk => ?_⟩
  · by_cases hq : q < L.length
    · rw [List.getElem?_append_left hq] at hy
      obtain ⟨vs, h1, h2⟩ := h.el q y hy
      refine ⟨vs, fun j d hj => ?_, ?_⟩
      · have h3 := h1 j d hj
        rw [List.getElem?_append_left (List.getElem?_eq_some_iff.1 h3).1]
        exact h3
      · simp only [show ¬ q = L.length from by omega, if_false]
        exact hE.ow_keep h2 fun k hk => hg.block k (Nat.lt_of_lt_of_le (h.sub q k hk).2.1 hle) (fun e => (h.sub q k hk).2.2 e.symm)
    · rw [List.getElem?_append_right (by omega)] at hy
      have hq2 : q = L.length := by
        have := (List.getElem?_eq_some_iff.1 hy).1
        simp at this
        omega
      subst hq2
      simp at hy
      subst hy
      refine ⟨us, fun j d hj => ?_, ?_⟩
      · rw [List.getElem?_append_right (by omega), hxl, Nat.add_sub_cancel_left]
        exact hj
      · simp only [if_true]
        exact hE.ow_keep hx fun k hk => hg.block k (hS k hk).2 (hnb k (hS k hk).1)
  · have hne : ∀ k, k < w.heap.size → v.ownBlock ≠ some k → v'.ownBlock ≠ some k := fun k hk hn e => by
      rcases hat with e2 | e2
      · exact hn (e2 ▸ e)
      · rw [e2] at e
        cases e
        omega
    by_cases hq : q = L.length
    · simp only [hq, if_true] at hk
      have := hS k hk
      exact ⟨by omega, by omega, hne k this.2 (fun e => hnb k this.1 e.symm)⟩
    · simp only [hq, if_false] at hk
      have := h.sub q k hk
      exact ⟨this.1, by omega, hne k (by omega) this.2.2⟩
  · by_cases hq : q = L.length
    · simp only [hq, if_true] at hk
      simp only [show ¬ r = L.length from by omega, if_false]
      intro h2
      have h3 := (h.sub r k h2).2.1
      have h4 := (hS k hk).1
      omega
    · simp only [hq, if_false] at hk
      by_cases hr : r = L.length
      · simp only [hr, if_true]
        intro h2
        have h3 := (h.sub q k hk).2.1
        have h4 := (hS k h2).1
        omega
      · simp only [hr, if_false]
        exact h.dis q r k hqr hk
  · rcases hat with e2 | e2
    · rw [e2] at hk
      have := h.blk k hk
      omega
    · rw [e2] at hk
      cases hk
      rcases hown.2 with ⟨hn, h0⟩ | ⟨g, cap, cur, hv, hlog, hgg, _⟩
      · rw [hn] at e2
        cases e2
      · rw [hv] at e2
        cases e2
        exact ⟨hlog, (Array.getElem?_eq_some_iff.1 hgg).1⟩
  · rcases hat with e2 | e2
    · exact .inl (e2 ▸ hk)
    · rw [e2] at hk
      cases hk
      exact .inr rfl
  · by_cases hq : q = L.length
    · simp only [hq, if_true] at hk
      exact .inr hk
    · simp only [hq, if_false] at hk
      exact .inl hk
theorem App.app {P : Program} (hE : Ok E) (h : App E w lo hi T v L xs Sf) {t ty : TypeId} {i : TypeInfo} {z : Value} {bytes : Nat} (ht : P.underlying t = some (.slice T)) (hi' : P.info? T = some i) (hz : i.zero = some z) (hsize : i.size = E.size) (hby : i.bytes = bytes) (hzs : z.cells.size = E.size) (hpos : 0 < E.size)
    {x : α} {us : List Value} {Sx : Nat → Prop} {blk c : Nat} (hrow : ∀ j u, us[j]? = some u → w.cell? ⟨blk, j, none⟩ = some u) (hx : E.ow w Sx x us) (hS : ∀ k, Sx k → hi ≤ k ∧ k < w.heap.size) (hlo : lo ≤ hi) (hL : L.length + 1 ≤ maxLen) (hLb : (L.length + 1) * bytes ≤ 140737488355328) :
    ∃ v' w' xs' Sf', (Builtin.append_ #[t, t] ty #[v, .slice (some ⟨blk, 0, none⟩) 1 c]).run P w = .ok v' w' ∧ App E w' lo w'.heap.size T v' (L ++ [x]) xs' Sf' ∧ w.grownBy w' v.ownBlock := by
  obtain ⟨v', w', xs', Sf', h1, h2, h3, _⟩ := h.app2 (ty := ty) (c := c) hE ht hi' hz hsize hby hzs hpos hrow hx hS hlo hL hLb
  exact ⟨v', w', xs', Sf', h1, h2, h3⟩
theorem App.mv2 (hE : Ok E) (h : App E w lo hi T v L xs Sf) (hs : w.heap.size ≤ w'.heap.size) (hb : ∀ k, v.ownBlock = some k → w'.heap[k]? = w.heap[k]?) (hb2 : ∀ i k, Sf i k → w'.heap[k]? = w.heap[k]?) : App E w' lo hi T v L xs Sf := by
  refine ⟨?_, fun i x hx => ?_, h.sub, h.dis, h.blk, Nat.le_trans h.le hs⟩
  · obtain ⟨h1, h2⟩ := h.own
    refine ⟨h1, ?_⟩
    rcases h2 with h2 | ⟨g, cap, cur, rfl, hlo, hg, h3⟩
    · exact .inl h2
    · exact .inr ⟨g, cap, cur, rfl, hlo, (hb g rfl).trans hg, h3⟩
  · obtain ⟨us, h1, h2⟩ := h.el i x hx
    exact ⟨us, h1, hE.ow_keep h2 fun k hk => hb2 i k hk⟩
end
structure Flat {α : Type} (E : Rp α) (f : α → List Value) : Prop where
  rd : ∀ {W B x us}, E.rd W B x us → us = f x
  ow : ∀ (W : World) (S : Nat → Prop) (x : α), E.ow W S x (f x)
theorem app_flat {α : Type} {E : Rp α} {f : α → List Value} (hE : Ok E) (hF : Flat E f) {P : Program} {L : List α} {a : Option Addr} {cap : Nat} {w : World} {t ty T : TypeId} {i : TypeInfo} {z : Value} {bytes : Nat} (ht : P.underlying t = some (.slice T)) (hi : P.info? T = some i) (hz : i.zero = some z) (hsize : i.size = E.size) (hby : i.bytes = bytes)
    (hzs : z.cells.size = E.size) (hpos : 0 < E.size) (hn : L.length ≤ maxLen) (hnb : L.length * bytes ≤ 140737488355328) (h : RdSl E w w.heap.size L a cap) :
    ∃ a' c' w', (Builtin.append_ #[t, t] ty #[.slice (some ⟨w.heap.size, 0, none⟩) 0 0, .slice a L.length cap]).run P (w.alloc (.cells #[] T)) = .ok (.slice a' L.length c') w' ∧ OwSl E w' (Rg w.heap.size w'.heap.size) L a' c' ∧ Below w.heap.size w w' := by
  have hbel : Below w.heap.size w (w.alloc (.cells #[] T)) := (Below.refl _ _).alloc (Nat.le_refl _) _
  by_cases h0 : L.length = 0
  · have hL : L = [] := List.eq_nil_of_length_eq_zero h0
    subst hL
    exact ⟨_, _, _, app_nil ht hi _ a 0 cap, ⟨Nat.le_refl _, Nat.zero_le _, fun h => absurd h (Nat.lt_irrefl _)⟩, hbel⟩
  · obtain ⟨g, o, rfl, hg, hel⟩ := h.2.2 (by omega)
    have hlen : ∀ x ∈ L, (f x).length = E.size := fun x hx => hE.ow_len (hF.ow w (fun _ => False) x)
    have hfl : ∀ M : List α, (∀ x ∈ M, (f x).length = E.size) → (M.flatMap f).length = M.length * E.size := fun M hM => by
      induction M with
      | nil => simp
      | cons y ys ih => simp only [List.flatMap_cons, List.length_append, List.length_cons, ih fun x hx => hM x (by simp [hx]), hM y (by simp), Nat.add_mul, Nat.one_mul]; omega
    have hcell : ∀ (M : List α) (b : Nat), (∀ x ∈ M, (f x).length = E.size) → (∀ i x, M[i]? = some x → CellsAt w g (b + i * E.size) (f x)) → CellsAt w g b (M.flatMap f) := by
      intro M
      induction M with
      | nil => exact fun b _ _ => CellsAt.nil
      | cons y ys ih =>
        intro b hM hc
        simp only [List.flatMap_cons]
        refine CellsAt.app.2 ⟨by simpa using hc 0 y rfl, ?_⟩
        rw [hM y (by simp)]
        refine ih _ (fun x hx => hM x (by simp [hx])) fun i x hx => ?_
        have := hc (i + 1) x (by simpa using hx)
        rw [Nat.add_mul, Nat.one_mul] at this
        rw [show b + E.size + i * E.size = b + (i * E.size + E.size) by omega]
        exact this
    have hall := hcell L o hlen fun i x hx => by
      obtain ⟨us, hu, hr⟩ := hel i x hx
      rw [← hF.rd hr]
      exact hu
    obtain ⟨v', w', hrun, hown, hgr, _, hat⟩ := run_append_own_at (P := P) (w.alloc (.cells #[] T)) w.heap.size t ty T i z E.size bytes ht hi hz hsize hby hzs hpos _ 0 [] (App.made E w T).own ⟨g, o, none⟩ L.length cap (L.flatMap f) (hfl L hlen)
      (fun j u hj => by
        have hadd : (⟨g, o, none⟩ : Addr).add j = ⟨g, o + j, none⟩ := by unfold Addr.add; split <;> simp_all
        rw [hadd]
        exact (hbel.cell (p := ⟨g, o + j, none⟩) hg).trans (hall j u hj)) (fun u hu => by
        obtain ⟨x, hx, hu⟩ := List.mem_flatMap.1 hu
        exact hE.one (hE.ow_rd (B := 0) (hF.ow w (fun _ => False) x) (fun k h => h.elim)) u hu) (by omega) (by simpa using hnb) (by simp)
    rw [Nat.zero_add, List.nil_append] at hown
    have hb2 : Below w.heap.size w w' := hbel.trans (by
      refine ⟨hgr.os, hgr.tape, hgr.output, hgr.size, fun k hk => hgr.block k (by simp; omega) (fun e => by cases e; exact Nat.lt_irrefl _ hk)⟩)
    rcases hown.2 with ⟨hn0, hL0⟩ | ⟨g', cap', cur, rfl, hlo, hgg, hnc, hm, hc, htk⟩
    · omega
    · have hgl : g' < w'.heap.size := (Array.getElem?_eq_some_iff.1 hgg).1
      refine ⟨_, cap', w', hrun, ⟨hnc, hm, fun _ => ⟨g', fun _ _ => False, rfl, ⟨hlo, hgl⟩, fun j => by simp [World.frozen?, hgg], fun i k h => h.elim, fun i j k _ h => h.elim, fun q x hq => ⟨f x, fun j d hj => ?_, hF.ow _ _ _⟩⟩⟩, hb2⟩
      have hidx : ∀ (M : List α) (q : Nat) (x : α), (∀ x ∈ M, (f x).length = E.size) → M[q]? = some x → ∀ j d, (f x)[j]? = some d → (M.flatMap f)[q * E.size + j]? = some d := by
        intro M
        induction M with
        | nil => intro q x _ hq; simp at hq
        | cons y ys ih =>
          intro q x hM hq j d hj
          simp only [List.flatMap_cons]
          cases q with
          | zero =>
            simp at hq
            subst hq
            rw [Nat.zero_mul, Nat.zero_add, List.getElem?_append_left (List.getElem?_eq_some_iff.1 hj).1]
            exact hj
          | succ q =>
            have hy := hM y (by simp)
            rw [List.getElem?_append_right (by rw [hy, Nat.add_mul, Nat.one_mul]; omega), hy, Nat.add_mul, Nat.one_mul, show q * E.size + E.size + j - E.size = q * E.size + j by omega]
            exact ih q x (fun x hx => hM x (by simp [hx])) (by simpa using hq) j d hj
      have h4 := hidx L q x hlen hq j d hj
      rw [← htk] at h4
      have h5 : cur.toList[q * E.size + j]? = some d := by
        rw [List.getElem?_take] at h4
        split at h4
        · exact h4
        · cases h4
      exact (cell_of_row w' g' _ cur _ _ hgg).trans (by simpa using h5)
end Go.Proofs.Ytfciojkibklkfaa.RepC
end
section
namespace Go.Proofs.Ytfciojkibklkfaa.RepC
open Go.RowKit RowC ValC
set_option linter.unusedVariables false
def OwG {α : Type} (E : Rp α) (w : World) (S : Nat → Prop) (d : α) (cs : List Value) : Prop := E.ow w S d cs ∧ ∀ k, S k → k < w.heap.size
theorem OwG.mv {α : Type} {E : Rp α} (hE : Ok E) {w w' : World} {S : Nat → Prop} {d : α} {cs : List Value} (h : OwG E w S d cs) (hb : Below w.heap.size w w') : OwG E w' S d cs :=
  ⟨hE.ow_keep h.1 fun k hk => hb.block k (h.2 k hk), fun k hk => Nat.lt_of_lt_of_le (h.2 k hk) hb.size⟩
theorem OwG.off {α : Type} {E : Rp α} (hE : Ok E) {w w' : World} {S T : Nat → Prop} {d : α} {cs : List Value} (h : OwG E w S d cs) (ho : Off T w w') (hd : ∀ k, S k → ¬ T k) : OwG E w' S d cs :=
  ⟨hE.ow_keep h.1 fun k hk => ho.block k (h.2 k hk) (hd k hk), fun k hk => Nat.lt_of_lt_of_le (h.2 k hk) ho.size⟩
theorem OwG.rd {α : Type} {E : Rp α} (hE : Ok E) {w : World} {S : Nat → Prop} {d : α} {cs : List Value} (h : OwG E w S d cs) : E.rd w w.heap.size d cs := hE.ow_rd h.1 h.2
end Go.Proofs.Ytfciojkibklkfaa.RepC
end
section
namespace Go.Proofs.Ytfciojkibklkfaa.RepC
open Go.RowKit RowC ValC
set_option linter.unusedVariables false
set_option linter.unusedSimpArgs false
set_option maxRecDepth 100000
theorem below_own {B : Nat} {w w' : World} {v : Value} (h : w.grownBy w' v.ownBlock) (hv : ∀ k, v.ownBlock = some k → B ≤ k) (hB : B ≤ w.heap.size) : Below B w w' :=
  ⟨h.os, h.tape, h.output, h.size, fun k hk => h.block k (Nat.lt_of_lt_of_le hk hB) (fun e => by have := hv k e.symm; omega)⟩
theorem append_none {P : Program} {w : World} {base : Nat} {t ty e : TypeId} {i : TypeInfo} {size : Nat} (ht : P.underlying t = some (.slice e)) (hi : P.info? e = some i) {v : Value} {n : Nat} {xs : List Value} (hown : w.ownsRow base e size v n xs) (c : Nat) :
    (Builtin.append_ #[t, t] ty #[v, .slice none 0 c]).run P w = .ok v w := by
  rcases hown.2 with ⟨rfl, rfl⟩ | ⟨g, cap, cur, rfl, _, _, hnc, _⟩
  · simp [Builtin.append_, run_underlying ht, sizeOf, typeInfo, hi, Builtin.lenOf, Builtin.firstCells]
  · simp [Builtin.append_, run_underlying ht, sizeOf, typeInfo, hi, Builtin.lenOf, Builtin.firstCells, hnc, storeCells]
structure FRow {α : Type} (E : Rp α) (f : α → List Value) (w : World) (lo : Nat) (T : TypeId) (v : Value) (L : List α) : Prop where
  own : w.ownsRow lo T E.size v L.length (L.flatMap f)
  blk : ∀ k, v.ownBlock = some k → lo ≤ k ∧ k < w.heap.size
section
variable {α : Type} {E : Rp α} {f : α → List Value} {w w' : World} {lo : Nat} {T : TypeId} {v : Value} {L : List α}
theorem FRow.none_ (E : Rp α) (f : α → List Value) (w : World) (lo : Nat) (T : TypeId) : FRow E f w lo T (.slice none 0 0) [] := ⟨⟨by simp, .inl ⟨rfl, rfl⟩⟩, fun k hk => by cases hk⟩
theorem FRow.made (E : Rp α) (f : α → List Value) (w : World) (T : TypeId) : FRow E f (w.alloc (.cells #[] T)) w.heap.size T (.slice (some ⟨w.heap.size, 0, none⟩) 0 0) [] :=
  ⟨(App.made E w T).own, fun k hk => (by cases hk; exact ⟨Nat.le_refl _, by simp⟩)⟩
theorem FRow.isSlice (h : FRow E f w lo T v L) : ∃ a cap, v = .slice a L.length cap := by
  obtain ⟨_, h2⟩ := h.own
  rcases h2 with ⟨rfl, h0⟩ | ⟨g, cap, cur, rfl, _⟩
  · exact ⟨none, 0, by rw [h0]⟩
  · exact ⟨_, _, rfl⟩
theorem FRow.mv (h : FRow E f w lo T v L) (hs : w.heap.size ≤ w'.heap.size) (hb : ∀ k, v.ownBlock = some k → w'.heap[k]? = w.heap[k]?) : FRow E f w' lo T v L := by
  refine ⟨?_, fun k hk => ⟨(h.blk k hk).1, Nat.lt_of_lt_of_le (h.blk k hk).2 hs⟩⟩
  obtain ⟨h1, h2⟩ := h.own
  refine ⟨h1, ?_⟩
  rcases h2 with h2 | ⟨g, cap, cur, rfl, hlo, hg, h3⟩
  · exact .inl h2
  · exact .inr ⟨g, cap, cur, rfl, hlo, (hb g rfl).trans hg, h3⟩
theorem FRow.call (h : FRow E f w lo T v L) (hb : Below w.heap.size w w') : FRow E f w' lo T v L := h.mv hb.size fun k hk => hb.block k (h.blk k hk).2
theorem flatMap_len (hE : Ok E) (hF : Flat E f) (w : World) : ∀ M : List α, (M.flatMap f).length = M.length * E.size
  | [] => by simp
  | y :: ys => by
    have hy : (f y).length = E.size := hE.ow_len (hF.ow w (fun _ => False) y)
    simp only [List.flatMap_cons, List.length_append, List.length_cons, flatMap_len hE hF w ys, hy, Nat.add_mul, Nat.one_mul]
    omega
theorem flatMap_at (hE : Ok E) (hF : Flat E f) (w : World) : ∀ (M : List α) (q : Nat) (x : α), M[q]? = some x → ∀ j d, (f x)[j]? = some d → (M.flatMap f)[q * E.size + j]? = some d
  | [], q, x, hq, j, d, hj => by simp at hq
  | y :: ys, q, x, hq, j, d, hj => by
    have hy : (f y).length = E.size := hE.ow_len (hF.ow w (fun _ => False) y)
    simp only [List.flatMap_cons]
    cases q with
    | zero =>
      simp at hq
      subst hq
      rw [Nat.zero_mul, Nat.zero_add, List.getElem?_append_left (List.getElem?_eq_some_iff.1 hj).1]
      exact hj
    | succ q =>
      rw [List.getElem?_append_right (by rw [hy, Nat.add_mul, Nat.one_mul]; omega), hy, Nat.add_mul, Nat.one_mul, show q * E.size + E.size + j - E.size = q * E.size + j by omega]
      exact flatMap_at hE hF w ys q x (by simpa using hq) j d hj
theorem flatMap_cells (hE : Ok E) (hF : Flat E f) (w : World) (g : Nat) : ∀ (M : List α) (b : Nat), (∀ i x, M[i]? = some x → CellsAt w g (b + i * E.size) (f x)) → CellsAt w g b (M.flatMap f)
  | [], b, _ => CellsAt.nil
  | y :: ys, b, hc => by
    have hy : (f y).length = E.size := hE.ow_len (hF.ow w (fun _ => False) y)
    simp only [List.flatMap_cons]
    refine CellsAt.app.2 ⟨by simpa using hc 0 y rfl, ?_⟩
    rw [hy]
    refine flatMap_cells hE hF w g ys _ fun i x hx => ?_
    have := hc (i + 1) x (by simpa using hx)
    rw [Nat.add_mul, Nat.one_mul] at this
    rw [show b + E.size + i * E.size = b + (i * E.size + E.size) by omega]
    exact this
theorem FRow.more (hE : Ok E) (hF : Flat E f) {P : Program} (h : FRow E f w lo T v L) {t ty : TypeId} {i : TypeInfo} {z : Value} {bytes : Nat} (ht : P.underlying t = some (.slice T)) (hi : P.info? T = some i) (hz : i.zero = some z) (hsize : i.size = E.size) (hby : i.bytes = bytes) (hzs : z.cells.size = E.size) (hpos : 0 < E.size)
    {M : List α} {a : Option Addr} {cap : Nat} (hM : RdSl E w w.heap.size M a cap) (hlo : lo ≤ w.heap.size) (hL : L.length + M.length ≤ maxLen) (hLb : (L.length + M.length) * bytes ≤ 140737488355328) :
    ∃ a' c' w', (Builtin.append_ #[t, t] ty #[v, .slice a M.length cap]).run P w = .ok (.slice a' (L ++ M).length c') w' ∧ FRow E f w' lo T (.slice a' (L ++ M).length c') (L ++ M) ∧ Below lo w w' := by
  cases a with
  | none =>
    have h0 : M = [] := by
      cases M with
      | nil => rfl
      | cons y ys => obtain ⟨g, o, ha, _⟩ := hM.2.2 (by simp); cases ha
    subst h0
    obtain ⟨a', c', rfl⟩ := h.isSlice
    simp only [List.append_nil]
    exact ⟨a', c', w, append_none ht hi h.own cap, h, Below.refl _ _⟩
  | some x =>
    obtain ⟨news, hlen, hcells, hone, hnews⟩ : ∃ news : List Value, news.length = M.length * E.size ∧ (∀ j u, news[j]? = some u → w.cell? (x.add j) = some u) ∧ (∀ u ∈ news, u.oneCell' = true) ∧ news = M.flatMap f := by
      refine ⟨M.flatMap f, flatMap_len hE hF w M, fun j u hj => ?_, fun u hu => ?_, rfl⟩
      · cases M with
        | nil => simp at hj
        | cons y ys =>
          obtain ⟨g, o, ha, hg, hel⟩ := hM.2.2 (by simp)
          cases ha
          have hall := flatMap_cells hE hF w g (y :: ys) o fun i x hx => by
            obtain ⟨us, hu, hr⟩ := hel i x hx
            rw [← hF.rd hr]
            exact hu
          have hadd : (⟨g, o, none⟩ : Addr).add j = ⟨g, o + j, none⟩ := by unfold Addr.add; split <;> simp_all
          rw [hadd]
          exact hall j u hj
      · obtain ⟨y, hy, hu⟩ := List.mem_flatMap.1 hu
        exact hE.one (hE.ow_rd (B := 0) (hF.ow w (fun _ => False) y) (fun k h => h.elim)) u hu
    obtain ⟨v', w', hrun, hown, hgr, _, hat⟩ := run_append_own_at (P := P) w lo t ty T i z E.size bytes ht hi hz hsize hby hzs hpos v L.length _ h.own x M.length cap news hlen hcells hone hL hLb hlo
    rw [hnews, ← List.flatMap_append, ← List.length_append] at hown
    have hb : Below lo w w' := below_own hgr (fun k hk => (h.blk k hk).1) hlo
    have hF2 : FRow E f w' lo T v' (L ++ M) := ⟨hown, fun k hk => by
      rcases hat with e | e
      · rw [e] at hk; exact ⟨(h.blk k hk).1, Nat.lt_of_lt_of_le (h.blk k hk).2 hb.size⟩
      · rw [e] at hk
        cases hk
        rcases hown.2 with ⟨hn, _⟩ | ⟨g, cap', cur, hv, hlog, hgg, _⟩
        · rw [hn] at e; cases e
        · rw [hv] at e
          cases e
          exact ⟨hlog, (Array.getElem?_eq_some_iff.1 hgg).1⟩⟩
    obtain ⟨a', c', rfl⟩ := hF2.isSlice
    exact ⟨a', c', w', hrun, hF2, hb⟩
theorem FRow.sl (hE : Ok E) (hF : Flat E f) (h : FRow E f w lo T v L) : ∃ a c, v = .slice a L.length c ∧ OwSl E w (fun k => v.ownBlock = some k) L a c := by
  obtain ⟨hx, h2⟩ := h.own
  rcases h2 with ⟨rfl, h0⟩ | ⟨g, cap, cur, rfl, hlo, hg, hnc, hm, hc, htk⟩
  · have : L = [] := List.eq_nil_of_length_eq_zero h0
    subst this
    exact ⟨none, 0, rfl, Nat.le_refl _, Nat.zero_le _, fun h => absurd h (Nat.lt_irrefl _)⟩
  · refine ⟨_, cap, rfl, hnc, hm, fun _ => ⟨g, fun _ _ => False, rfl, rfl, fun j => by simp [World.frozen?, hg], fun i k h => h.elim, fun i j k _ h => h.elim, fun q x hq => ⟨f x, fun j d hj => ?_, hF.ow _ _ _⟩⟩⟩
    have h4 := flatMap_at hE hF w L q x hq j d hj
    rw [← htk] at h4
    have h5 : cur.toList[q * E.size + j]? = some d := by
      rw [List.getElem?_take] at h4
      split at h4
      · exact h4
      · cases h4
    exact (cell_of_row w g _ cur _ _ hg).trans (by simpa using h5)
end
theorem infoOf {t : TypeId} {z : Value} {n b : Nat} (h : (Try.prog.info? t).map (fun i => (i.zero, i.size, i.bytes)) = some (some z, n, b)) : ∃ i, Try.prog.info? t = some i ∧ i.zero = some z ∧ i.size = n ∧ i.bytes = b := by
  cases hx : Try.prog.info? t with
  | none => rw [hx] at h; simp at h
  | some i => rw [hx] at h; simp at h; exact ⟨i, rfl, h.1, h.2.1, h.2.2⟩
theorem infoSpan : ∃ i, Try.prog.info? 25 = some i ∧ i.zero = some (.agg #[.int .i64 0, .int .i64 0]) ∧ i.size = 2 ∧ i.bytes = 16 := infoOf (by kernel_rfl)
theorem infoNode : ∃ i, Try.prog.info? 42 = some i ∧ i.zero = some (.agg #[.int .i64 0, .slice none 0 0]) ∧ i.size = 2 ∧ i.bytes = 32 := infoOf (by kernel_rfl)
theorem infoSpans : ∃ i, Try.prog.info? 39 = some i ∧ i.zero = some (.slice none 0 0) ∧ i.size = 1 ∧ i.bytes = 24 := infoOf (by kernel_rfl)
theorem flat_Span : Flat R_Span (fun x => [.int .i64 x.1, .int .i64 x.2]) := ⟨fun {W B x us} h => by obtain ⟨a, b⟩ := x; exact rd_Span h, fun W S x => by obtain ⟨a, b⟩ := x; exact mkow_Span⟩
abbrev XRow (w : World) (lo : Nat) (v : Value) (L : List D_Span) : Prop := FRow R_Span (fun x => [.int .i64 x.1, .int .i64 x.2]) w lo 25 v L
theorem XRow.more {w : World} {lo : Nat} {v : Value} {L M : List D_Span} {a : Option Addr} {cap : Nat} (h : XRow w lo v L) (hM : RdSl R_Span w w.heap.size M a cap) (hlo : lo ≤ w.heap.size) (hL : L.length + M.length ≤ 8796093022208) :
    ∃ a' c' w', (Builtin.append_ #[39, 39] 39 #[v, .slice a M.length cap]).run Try.prog w = .ok (.slice a' (L ++ M).length c') w' ∧ XRow w' lo (.slice a' (L ++ M).length c') (L ++ M) ∧ Below lo w w' := by
  obtain ⟨i, hi', hz, hs, hby⟩ := infoSpan
  exact FRow.more R_Span_ok flat_Span h Try.underlying39 hi' hz hs hby rfl (by decide) hM hlo (by unfold maxLen; omega) (by omega)
theorem rd_oneS {w : World} {g : Nat} (x0 x1 : Int) (h : Blk w g 25 #[.int .i64 x0, .int .i64 x1]) : RdSl R_Span w w.heap.size [(x0, x1)] (some ⟨g, 0, none⟩) 1 := by
  refine ⟨Nat.le_refl _, by unfold maxLen; omega, fun _ => ⟨g, 0, rfl, h.lt, fun i x hx => ?_⟩⟩
  cases i with
  | zero =>
    simp at hx
    subst hx
    refine ⟨[.int .i64 x0, .int .i64 x1], fun j c hj => ?_, mkrd_Span⟩
    simpa using h.at_ j (by simpa using hj)
  | succ i => simp at hx
theorem FRow.news {α : Type} {E : Rp α} {f : α → List Value} (hE : Ok E) (hF : Flat E f) {W w : World} {lo : Nat} {T : TypeId} {v : Value} {L : List α} (h : FRow E f w lo T v L) (hlo : W.heap.size ≤ lo) (hb : Below W.heap.size W w) : NewS E L W (.returned v) w := by
  obtain ⟨a, c, rfl, ho⟩ := h.sl hE hF
  exact ⟨a, c, rfl, ho.more fun k hk => ⟨Nat.le_trans hlo (h.blk k hk).1, (h.blk k hk).2⟩, hb⟩
end Go.Proofs.Ytfciojkibklkfaa.RepC
end
section
namespace Go.Proofs.Ytfciojkibklkfaa.RepC
open Go.RowKit RowC ValC SpanC KeptC
set_option linter.unusedVariables false
set_option linter.unusedSimpArgs false
structure CopN (w W : World) (L : List D_Node) (g k : Nat) (Sf : Nat → Nat → Prop) : Prop where
  el : ∀ i x, L[i]? = some x → ∃ a c, W.cell? ⟨g, i * 2, none⟩ = some (.int .i64 x.1) ∧ W.cell? ⟨g, i * 2 + 1, none⟩ = some (.slice a x.2.length c) ∧ (i < k → OwSl R_Span W (Sf i) x.2 a c) ∧ (k ≤ i → RdSl R_Span W w.heap.size x.2 a c)
  soft : ∀ j, W.frozen? ⟨g, j, none⟩ = false
  sub : ∀ i q, Sf i q → g < q ∧ q < W.heap.size ∧ i < k
  dis : ∀ i j q, i < j → Sf i q → ¬ Sf j q
  base : w.heap.size ≤ g
  lt : g < W.heap.size
  below : Below w.heap.size w W
theorem CopN.call {w W W' : World} {L : List D_Node} {g k : Nat} {Sf : Nat → Nat → Prop} (h : CopN w W L g k Sf) (hb : Below W.heap.size W W') : CopN w W' L g k Sf := by
  refine ⟨fun i x hx => ?_, fun j => (hb.frozen (p := ⟨g, j, none⟩) h.lt).trans (h.soft j), fun i q hq => by have := h.sub i q hq; have := hb.size; omega, h.dis, h.base, Nat.lt_of_lt_of_le h.lt hb.size, h.below.trans (hb.mono h.below.size)⟩
  obtain ⟨a, c, h1, h2, h3, h4⟩ := h.el i x hx
  exact ⟨a, c, (hb.cell (p := ⟨g, i * 2, none⟩) h.lt).trans h1, (hb.cell (p := ⟨g, i * 2 + 1, none⟩) h.lt).trans h2, fun hi => (h3 hi).keep R_Span_ok fun q hq => hb.block q (h.sub i q hq).2.1, fun hi => (h4 hi).below R_Span_ok (hb.mono h.below.size)⟩
theorem CopN.put {w W W1 : World} {L : List D_Node} {g k : Nat} {Sf : Nat → Nat → Prop} {x : D_Node} {a : Option Addr} {c : Nat} (h : CopN w W L g k Sf) (hx : L[k]? = some x) (hb : Below W.heap.size W W1) (hr : OwSl R_Span W1 (Rg W.heap.size W1.heap.size) x.2 a c) :
    CopN w (W1.setCell ⟨g, k * 2 + 1, none⟩ (.slice a x.2.length c)) L g (k + 1) (fun i q => if i = k then Rg W.heap.size W1.heap.size q else Sf i q) := by
  have hgl := h.lt
  have hsz := hb.size
  have hbs := h.base
  have hws := h.below.size
  obtain ⟨a0, c0, g1, g2, _, _⟩ := h.el k x hx
  have hk1 : W1.cell? ⟨g, k * 2 + 1, none⟩ = some (.slice a0 x.2.length c0) := (hb.cell (p := ⟨g, k * 2 + 1, none⟩) hgl).trans g2
  have hset : ∀ q, q ≠ g → (W1.setCell ⟨g, k * 2 + 1, none⟩ (.slice a x.2.length c)).heap[q]? = W1.heap[q]? := fun q hq => Below.heap_setCell W1 ⟨g, k * 2 + 1, none⟩ _ q hq
  have hss : (W1.setCell ⟨g, k * 2 + 1, none⟩ (.slice a x.2.length c)).heap.size = W1.heap.size := by simp
  refine ⟨fun i y hy => ?_, fun j => ?_, fun i q hq => ?_, fun i j q hij hi => ?_, h.base, by rw [hss]; omega, (h.below.trans (hb.mono hws)).setCell (by exact hbs) _⟩
  · by_cases e : i = k
    · subst e
      rw [hx] at hy
      cases hy
      refine ⟨a, c, ?_, World.cell?_setCell_same _ _ _ hk1, fun _ => ?_, fun hi => absurd hi (by omega)⟩
      · rw [World.cell?_setCell_other _ _ _ _ (fun e => by injection e with _ e2; omega)]
        exact (hb.cell (p := ⟨g, i * 2, none⟩) hgl).trans g1
      · simp only [if_true]
        exact hr.keep R_Span_ok fun q hq => hset q (by unfold Rg at hq; omega)
    · obtain ⟨a', c', h1, h2, h3, h4⟩ := h.el i y hy
      refine ⟨a', c', ?_, ?_, fun hi => ?_, fun hi => ?_⟩
      · rw [World.cell?_setCell_other _ _ _ _ (fun e => by injection e with _ e2; omega)]
        exact (hb.cell (p := ⟨g, i * 2, none⟩) hgl).trans h1
      · rw [World.cell?_setCell_other _ _ _ _ (fun e => by injection e with _ e2; omega)]
        exact (hb.cell (p := ⟨g, i * 2 + 1, none⟩) hgl).trans h2
      · simp only [e, if_false]
        exact ((h3 (by omega)).keep R_Span_ok fun q hq => hb.block q (h.sub i q hq).2.1).keep R_Span_ok fun q hq => hset q (by have := h.sub i q hq; omega)
      · exact (h4 (by omega)).below R_Span_ok ((hb.mono hws).trans ((Below.refl _ _).setCell (by exact hbs) _))
  · simp only [World.frozen?_setCell]
    exact (hb.frozen (p := ⟨g, j, none⟩) hgl).trans (h.soft j)
  · rw [hss]
    by_cases e : i = k
    · simp only [e, if_true] at hq
      unfold Rg at hq
      omega
    · simp only [e, if_false] at hq
      have := h.sub i q hq
      omega
  · by_cases e1 : i = k
    · subst e1
      simp only [if_true] at hi
      have e2 : j ≠ i := by omega
      simp only [e2, if_false]
      intro hj
      have := (h.sub j q hj).2.2
      omega
    · simp only [e1, if_false] at hi
      by_cases e2 : j = k
      · simp only [e2, if_true]
        have := (h.sub i q hi).2.1
        unfold Rg
        omega
      · simp only [e2, if_false]
        exact h.dis i j q hij hi
theorem CopN.done {w W : World} {L : List D_Node} {g : Nat} {Sf : Nat → Nat → Prop} (h : CopN w W L g L.length Sf) : Row R_Node W (Rg w.heap.size W.heap.size) L g Sf := by
  refine ⟨⟨h.base, h.lt⟩, h.soft, fun i k hk => ⟨⟨by have := (h.sub i k hk).1; have := h.base; omega, (h.sub i k hk).2.1⟩, by have := (h.sub i k hk).1; omega⟩, h.dis, fun i x hx => ?_⟩
  obtain ⟨a, c, h1, h2, h3, _⟩ := h.el i x hx
  refine ⟨[.int .i64 x.1, .slice a x.2.length c], fun j d hd => ?_, mkow_Node (fun k hk => hk) (h3 (el_lt hx))⟩
  rw [size_NodeS]
  match j, hd with
  | 0, hd => simp at hd; subst hd; simpa using h1
  | 1, hd => simp at hd; subst hd; exact h2
  | j + 2, hd => simp at hd
theorem Row.put {α : Type} {E : Rp α} (hE : Ok E) {W W' : World} {S T : Nat → Prop} {L : List α} {g i : Nat} {Sf : Nat → Nat → Prop} {x : α} {us : List Value} (h : Row E W S L g Sf) (hS : ∀ k, S k → k < W.heap.size) (hU : Upd W W' g (i * E.size) ((i + 1) * E.size) (Sf i))
    (hT : ∀ k, T k → W.heap.size ≤ k) (hc : CellsAt W' g (i * E.size) us) (hr : E.ow W' T x us) : Row E W' (fun k => S k ∨ T k) (L.set i x) g (fun j k => if j = i then T k else Sf j k) := by
  have hg := hS g h.own
  refine ⟨.inl h.own, fun j => (hU.soft j).trans (h.soft j), fun j k hk => ?_, fun j l k hjl hj => ?_, fun j y hy => ?_⟩
  · by_cases e : j = i
    · simp only [e, if_true] at hk; exact ⟨.inr hk, by have := hT k hk; omega⟩
    · simp only [e, if_false] at hk; exact ⟨.inl (h.sub j k hk).1, (h.sub j k hk).2⟩
  · by_cases e : j = i
    · have e2 : l ≠ i := by omega
      simp only [e, if_true] at hj
      simp only [e2, if_false]
      exact fun hl => by have := hT k hj; have := hS k (h.sub l k hl).1; omega
    · simp only [e, if_false] at hj
      by_cases e2 : l = i
      · simp only [e2, if_true]
        exact fun hl => by have := hT k hl; have := hS k (h.sub j k hj).1; omega
      · simp only [e2, if_false]
        exact h.dis j l k hjl hj
  · by_cases e : i = j
    · subst e
      rw [List.getElem?_set] at hy
      split at hy
      · split at hy
        · injection hy with hy
          subst hy
          exact ⟨us, hc, by simpa using hr⟩
        · cases hy
      · exact absurd rfl ‹_›
    · rw [List.getElem?_set_ne e] at hy
      obtain ⟨vs, hv, hw⟩ := h.el j y hy
      have e' : j ≠ i := fun q => e q.symm
      refine ⟨vs, fun p c hp => ?_, ?_⟩
      · have hl := (List.getElem?_eq_some_iff.1 hp).1
        rw [hE.ow_len hw] at hl
        rw [hU.cells _ (mul_lt_el hl e)]
        exact hv p c hp
      · simp only [e', if_false]
        refine hE.ow_keep hw fun k hk => hU.block k (hS k (h.sub j k hk).1) (h.sub j k hk).2 (fun hi => ?_)
        rcases Nat.lt_or_gt_of_ne e with e2 | e2
        · exact h.dis i j k e2 hi hk
        · exact h.dis j i k e2 hk hi
end Go.Proofs.Ytfciojkibklkfaa.RepC
end
section
namespace Go.Proofs.Ytfciojkibklkfaa.RepC
open Go.RowKit RowC ValC SpanC KeptC
set_option linter.unusedVariables false
set_option linter.unusedSimpArgs false
theorem ins_list {L : List D_Span} {x : D_Span} {p : Nat} (hp : p ≤ L.length) {h : Nat → Int × Int} (hh : ∀ i, i < L.length + 1 → h i = insF (gt L) p x i) : (List.range (L.length + 1)).map h = L.take p ++ x :: L.drop p := by
  apply List.ext_getElem?
  intro i
  rw [List.getElem?_map]
  by_cases hi : i < L.length + 1
  · rw [List.getElem?_range hi]
    simp only [Option.map_some]
    rw [hh i hi]
    unfold insF
    by_cases h1 : i < p
    · rw [if_pos h1, List.getElem?_append_left (by rw [List.length_take]; omega), List.getElem?_take, if_pos h1, gt_get (by omega)]
    · rw [if_neg h1, List.getElem?_append_right (by rw [List.length_take]; omega), List.length_take, show min p L.length = p by omega]
      by_cases h2 : i = p
      · subst h2; simp
      · rw [if_neg h2, show i - p = (i - p - 1) + 1 by omega, List.getElem?_cons_succ, List.getElem?_drop, show p + (i - p - 1) = i - 1 by omega, gt_get (by omega)]
  · rw [List.getElem?_eq_none (by simp; omega), Option.map_none, List.getElem?_eq_none (by simp; omega)]
end Go.Proofs.Ytfciojkibklkfaa.RepC
end
section
namespace Go.Proofs.Ytfciojkibklkfaa.RepC
open Go.RowKit RowC ValC
set_option linter.unusedVariables false
set_option linter.unusedSimpArgs false
set_option maxRecDepth 100000
def AppS {α : Type} (E : Rp α) (w : World) (base top : Nat) (T : TypeId) (v : Value) (L : List α) (S : Nat → Prop) : Prop :=
  ∃ lo hi xs Sf, base ≤ lo ∧ lo ≤ hi ∧ hi ≤ top ∧ App E w lo hi T v L xs Sf ∧ ∀ k, S k ↔ (v.ownBlock = some k ∨ ∃ i, Sf i k)
section
variable {α : Type} {E : Rp α} {w w' : World} {base top : Nat} {T : TypeId} {v : Value} {L : List α} {S : Nat → Prop}
theorem AppS.none_ (E : Rp α) (w : World) (T : TypeId) : AppS E w w.heap.size w.heap.size T (.slice none 0 0) [] (fun _ => False) :=
  ⟨_, _, _, _, Nat.le_refl _, Nat.le_refl _, Nat.le_refl _, App.none_ E w T (Nat.le_refl _), fun k => ⟨fun h => h.elim, fun h => h.elim (fun h => by cases h) fun ⟨_, h⟩ => h⟩⟩
theorem AppS.bnd (h : AppS E w base top T v L S) {k : Nat} (hk : S k) : base ≤ k ∧ k < top := by
  obtain ⟨lo, hi, xs, Sf, h1, h2, h3, hA, hS⟩ := h
  rcases (hS k).1 hk with h | ⟨i, h⟩
  · have := hA.blk k h; omega
  · have := hA.sub i k h; omega
theorem AppS.isSlice (h : AppS E w base top T v L S) : ∃ a c, v = .slice a L.length c := by
  obtain ⟨lo, hi, xs, Sf, h1, h2, h3, hA, hS⟩ := h
  exact hA.isSlice
theorem AppS.mv (hE : Ok E) (h : AppS E w base top T v L S) (hs : w.heap.size ≤ w'.heap.size) (hb : ∀ k, S k → w'.heap[k]? = w.heap[k]?) : AppS E w' base top T v L S := by
  obtain ⟨lo, hi, xs, Sf, h1, h2, h3, hA, hS⟩ := h
  exact ⟨lo, hi, xs, Sf, h1, h2, h3, hA.mv2 hE hs (fun k hk => hb k ((hS k).2 (.inl hk))) (fun i k hk => hb k ((hS k).2 (.inr ⟨i, hk⟩))), hS⟩
theorem AppS.call (hE : Ok E) (h : AppS E w base top T v L S) (ht : top ≤ w.heap.size) (hb : Below w.heap.size w w') : AppS E w' base top T v L S :=
  h.mv hE hb.size fun k hk => hb.block k (Nat.lt_of_lt_of_le (h.bnd hk).2 ht)
theorem AppS.rise {top' : Nat} (h : AppS E w base top T v L S) (ht : top ≤ top') : AppS E w base top' T v L S := by
  obtain ⟨lo, hi, xs, Sf, h1, h2, h3, hA, hS⟩ := h
  exact ⟨lo, hi, xs, Sf, h1, h2, Nat.le_trans h3 ht, hA, hS⟩
theorem AppS.done (hE : Ok E) (h : AppS E w base top T v L S) : ∃ a c, v = .slice a L.length c ∧ OwSl E w (Rg base top) L a c := by
  obtain ⟨lo, hi, xs, Sf, h1, h2, h3, hA, hS⟩ := h
  obtain ⟨a, c, rfl, hO⟩ := hA.done
  exact ⟨a, c, rfl, hO.more (fun k hk => ⟨Nat.le_trans h1 hk.1, Nat.lt_of_lt_of_le hk.2 h3⟩)⟩
theorem AppS.app {P : Program} (hE : Ok E) (h : AppS E w base top T v L S) {t ty : TypeId} {i : TypeInfo} {z : Value} {bytes : Nat} (ht : P.underlying t = some (.slice T)) (hi' : P.info? T = some i) (hz : i.zero = some z) (hsize : i.size = E.size) (hby : i.bytes = bytes) (hzs : z.cells.size = E.size) (hpos : 0 < E.size)
    {x : α} {us : List Value} {Sx : Nat → Prop} {blk c : Nat} (hrow : ∀ j u, us[j]? = some u → w.cell? ⟨blk, j, none⟩ = some u) (hx : E.ow w Sx x us) (hS : ∀ k, Sx k → top ≤ k ∧ k < w.heap.size) (htop : top ≤ w.heap.size) (hL : L.length + 1 ≤ maxLen) (hLb : (L.length + 1) * bytes ≤ 140737488355328) :
    ∃ v' w' S', (Builtin.append_ #[t, t] ty #[v, .slice (some ⟨blk, 0, none⟩) 1 c]).run P w = .ok v' w' ∧ AppS E w' base w'.heap.size T v' (L ++ [x]) S' ∧ w.grownBy w' v.ownBlock ∧ (∀ k, v.ownBlock = some k → S k) ∧ ∀ k, S' k → S k ∨ top ≤ k := by
  obtain ⟨lo, hi, xs, Sf, h1, h2, h3, hA, hSS⟩ := h
  obtain ⟨v', w', xs', Sf', hrun, hA', hg, hown, hsub⟩ := hA.app2 (ty := ty) (c := c) hE ht hi' hz hsize hby hzs hpos hrow hx (fun k hk => ⟨by have := hS k hk; omega, (hS k hk).2⟩) h2 hL hLb
  refine ⟨v', w', fun k => v'.ownBlock = some k ∨ ∃ i, Sf' i k, hrun, ⟨lo, w'.heap.size, xs', Sf', h1, ?_, Nat.le_refl _, hA', fun k => Iff.rfl⟩, hg, fun k hk => (hSS k).2 (.inl hk), fun k hk => ?_⟩
  · have := hg.size; omega
  · rcases hk with hk | ⟨i, hk⟩
    · rcases hown k hk with h | h
      · exact .inl ((hSS k).2 (.inl h))
      · exact .inr (by omega)
    · rcases hsub i k hk with h | h
      · exact .inl ((hSS k).2 (.inr ⟨i, h⟩))
      · exact .inr (hS k h).1
end
def ARow {α : Type} (E : Rp α) (w : World) (lo : Nat) (T : TypeId) (v : Value) (L : List α) : Prop := ∃ S, AppS E w lo w.heap.size T v L S
section
variable {α : Type} {E : Rp α} {w w' : World} {lo : Nat} {T : TypeId} {v : Value} {L : List α}
theorem ARow.none_ (E : Rp α) (w : World) (T : TypeId) : ARow E w w.heap.size T (.slice none 0 0) [] := ⟨_, AppS.none_ E w T⟩
theorem ARow.made (E : Rp α) (w : World) (T : TypeId) : ARow E (w.alloc (.cells #[] T)) w.heap.size T (.slice (some ⟨w.heap.size, 0, none⟩) 0 0) [] :=
  ⟨_, _, _, _, _, Nat.le_refl _, Nat.le_succ _, by simp, App.made E w T, fun k => Iff.rfl⟩
theorem ARow.call (hE : Ok E) (h : ARow E w lo T v L) (hb : Below w.heap.size w w') : ARow E w' lo T v L := by
  obtain ⟨S, h⟩ := h
  exact ⟨S, (h.call hE (Nat.le_refl _) hb).rise hb.size⟩
theorem ARow.isSlice (h : ARow E w lo T v L) : ∃ a c, v = .slice a L.length c := by obtain ⟨S, h⟩ := h; exact h.isSlice
theorem ARow.base (h : ARow E w lo T v L) : lo ≤ w.heap.size := by
  obtain ⟨S, a, b, xs, Sf, h1, h2, h3, _⟩ := h
  omega
theorem ARow.app {P : Program} (hE : Ok E) (h : ARow E w lo T v L) (hb : Below w.heap.size w w') {t ty : TypeId} {i : TypeInfo} {z : Value} {bytes : Nat} (ht : P.underlying t = some (.slice T)) (hi' : P.info? T = some i) (hz : i.zero = some z) (hsize : i.size = E.size) (hby : i.bytes = bytes) (hzs : z.cells.size = E.size) (hpos : 0 < E.size)
    {x : α} {us : List Value} {blk c : Nat} (hrow : ∀ j u, us[j]? = some u → w'.cell? ⟨blk, j, none⟩ = some u) (hx : E.ow w' (Rg w.heap.size w'.heap.size) x us) (hL : L.length + 1 ≤ maxLen) (hLb : (L.length + 1) * bytes ≤ 140737488355328) :
    ∃ a' c' w2, (Builtin.append_ #[t, t] ty #[v, .slice (some ⟨blk, 0, none⟩) 1 c]).run P w' = .ok (.slice a' (L ++ [x]).length c') w2 ∧ ARow E w2 lo T (.slice a' (L ++ [x]).length c') (L ++ [x]) ∧ Below lo w' w2 := by
  obtain ⟨S, h⟩ := h
  have h' := h.call hE (Nat.le_refl _) hb
  obtain ⟨v', w2, S', hrun, hA, hg, ho, _⟩ := h'.app (ty := ty) (c := c) hE ht hi' hz hsize hby hzs hpos hrow hx (fun k hk => hk) hb.size hL hLb
  have hA2 : ARow E w2 lo T v' (L ++ [x]) := ⟨S', hA⟩
  obtain ⟨a', c', rfl⟩ := hA2.isSlice
  have hlo := ARow.base (show ARow E w lo T v L from ⟨S, h⟩)
  exact ⟨a', c', w2, hrun, hA2, below_own hg (fun k hk => (h.bnd (ho k hk)).1) (Nat.le_trans hlo hb.size)⟩
theorem ARow.news (hE : Ok E) {W : World} (h : ARow E w lo T v L) (hlo : W.heap.size ≤ lo) (hb : Below W.heap.size W w) : NewS E L W (.returned v) w := by
  obtain ⟨S, h⟩ := h
  obtain ⟨a, c, rfl, ho⟩ := h.done hE
  exact ⟨a, c, rfl, ho.more fun k hk => ⟨Nat.le_trans hlo hk.1, hk.2⟩, hb⟩
end
theorem app_node {w w' : World} {lo : Nat} {v : Value} {L : List D_Node} (h : ARow R_Node w lo 42 v L) (hb : Below w.heap.size w w') {st : Int} {M : List D_Span} {a : Option Addr} {c blk : Nat} (hc : Blk w' blk 42 #[.int .i64 st, .slice a M.length c]) (hM : OwSl R_Span w' (Rg w.heap.size w'.heap.size) M a c) (hL : L.length ≤ 4096) :
    ∃ a' c' w2, (Builtin.append_ #[23, 23] 23 #[v, .slice (some ⟨blk, 0, none⟩) 1 1]).run Try.prog w' = .ok (.slice a' (L ++ [(st, M)]).length c') w2 ∧ ARow R_Node w2 lo 42 (.slice a' (L ++ [(st, M)]).length c') (L ++ [(st, M)]) ∧ Below lo w' w2 := by
  obtain ⟨i, hi', hz, hs, hby⟩ := infoNode
  exact h.app R_Node_ok hb Try.underlying23 hi' hz hs hby rfl (by decide) (us := [.int .i64 st, .slice a M.length c]) (fun j u hj => hc.at_ j (by simpa using hj)) (mkow_Node (fun k hk => hk) hM) (by unfold maxLen; omega) (by omega)
theorem app_spans {w w' : World} {lo : Nat} {v : Value} {L : List (List D_Span)} (h : ARow (Sl R_Span) w lo 39 v L) (hb : Below w.heap.size w w') {M : List D_Span} {a : Option Addr} {c blk : Nat} (hc : Blk w' blk 39 #[.slice a M.length c]) (hM : OwSl R_Span w' (Rg w.heap.size w'.heap.size) M a c) (hL : L.length ≤ 4096) :
    ∃ a' c' w2, (Builtin.append_ #[36, 36] 36 #[v, .slice (some ⟨blk, 0, none⟩) 1 1]).run Try.prog w' = .ok (.slice a' (L ++ [M]).length c') w2 ∧ ARow (Sl R_Span) w2 lo 39 (.slice a' (L ++ [M]).length c') (L ++ [M]) ∧ Below lo w' w2 := by
  obtain ⟨i, hi', hz, hs, hby⟩ := infoSpans
  exact h.app (Sl_ok R_Span_ok) hb Try.underlying36 hi' hz hs hby rfl (by decide) (us := [.slice a M.length c]) (fun j u hj => hc.at_ j (by simpa using hj)) ⟨a, c, rfl, hM⟩ (by unfold maxLen; omega) (by omega)
theorem copy_spans {L : List D_Span} {a : Option Addr} {cap : Nat} {w : World} {ty : TypeId} (hn : L.length ≤ 1048576) (h : RdSl R_Span w w.heap.size L a cap) :
    ∃ a' c' w', (Builtin.append_ #[39, 39] ty #[.slice (some ⟨w.heap.size, 0, none⟩) 0 0, .slice a L.length cap]).run Try.prog (w.alloc (.cells #[] 25)) = .ok (.slice a' L.length c') w' ∧ OwSl R_Span w' (Rg w.heap.size w'.heap.size) L a' c' ∧ Below w.heap.size w w' := by
  obtain ⟨i, hi', hz, hs, hby⟩ := infoSpan
  exact app_flat R_Span_ok flat_Span Try.underlying39 hi' hz hs hby rfl (by decide) (by unfold maxLen; omega) (by omega) h
end Go.Proofs.Ytfciojkibklkfaa.RepC
end
section
namespace Go.Proofs.Ytfciojkibklkfaa.RepC
open Go.RowKit RowC ValC
set_option linter.unusedVariables false
set_option linter.unusedSimpArgs false
theorem below_setCells {B b : Nat} {w : World} (hB : B ≤ b) : ∀ (vs : List Value) (o : Nat) (W : World), Below B w W → Below B w (W.setCells b o vs)
  | [], _, _, h => h
  | v :: r, o, W, h => below_setCells hB r (o + 1) _ (h.setCell (p := ⟨b, o, none⟩) hB v)
theorem size_setCells {b : Nat} : ∀ (vs : List Value) (o : Nat) (W : World), (W.setCells b o vs).heap.size = W.heap.size
  | [], _, _ => rfl
  | v :: r, o, W => by rw [World.setCells, size_setCells r]; simp
theorem off_setCells {b : Nat} {w : World} : ∀ (vs : List Value) (o : Nat) (W : World), Off (fun k => k = b) w W → Off (fun k => k = b) w (W.setCells b o vs)
  | [], _, _, h => h
  | v :: r, o, W, h => off_setCells r (o + 1) _ (h.setCell (p := ⟨b, o, none⟩) rfl v)
theorem run_copy2 {P : Program} (w : World) {dT sT ty elem : TypeId} {i : TypeInfo} (hu : P.underlying dT = some (.slice elem)) (hi : P.info? elem = some i) (b o dLen dCap : Nat) (a : Addr) (sLen sCap : Nat) (cs : List Value) (n : Nat) (hn : Nat.min sLen dLen = n) (hlen : cs.length = n * i.size)
    (hsrc : ∀ j v, cs[j]? = some v → w.cell? (a.add j) = some v) (hc : ∀ j, j < cs.length → (w.cell? ⟨b, o + j, none⟩).isSome = true) (hf : ∀ j, j < cs.length → w.frozen? ⟨b, o + j, none⟩ = false) (h1 : ∀ v ∈ cs, v.oneCell' = true) :
    (Builtin.copy_ #[dT, sT] ty #[.slice (some ⟨b, o, none⟩) dLen dCap, .slice (some a) sLen sCap]).run P w = .ok (.int .i64 n) (w.setCells b o cs) := by
  have hl := run_loadCells_list (P := P) w a cs hsrc
  have hst := run_storeCells_cells (P := P) b o cs 0 w (by simpa using hc) (by simpa using hf) h1
  rw [hlen] at hl
  simp [Builtin.copy_, run_underlying hu, Builtin.lenOf, Builtin.firstCells, sizeOf, typeInfo, hi, hn, hl, hst, goInt]
theorem run_copy0 {P : Program} (w : World) {dT sT ty elem : TypeId} {i : TypeInfo} (hu : P.underlying dT = some (.slice elem)) (hi : P.info? elem = some i) (d a : Option Addr) (dLen dCap sLen sCap : Nat) (hn : Nat.min sLen dLen = 0) :
    (Builtin.copy_ #[dT, sT] ty #[.slice d dLen dCap, .slice a sLen sCap]).run P w = .ok (.int .i64 0) w := by
  have hl : ∀ (x : Addr), (loadCells x 0).run P w = .ok #[] w := fun x => by simpa using run_loadCells_list (P := P) w x [] (by simp)
  cases d <;> cases a <;> simp [Builtin.copy_, run_underlying hu, Builtin.lenOf, Builtin.firstCells, sizeOf, typeInfo, hi, hn, storeCells, hl, goInt]
theorem mv_rdB {α : Type} {E : Rp α} (hE : Ok E) {L : List α} {a : Option Addr} {cap : Nat} {w w' : World} (h : RdSl E w w.heap.size L a cap) (hb : Below w.heap.size w w') : RdSl E w' w'.heap.size L a cap := (h.below hE hb).more hE hb.size
abbrev noSf : Nat → Nat → Prop := fun _ _ => False
def fS (x : D_Span) : List Value := [.int .i64 x.1, .int .i64 x.2]
theorem copy_fil {w W : World} {L M : List D_Span} {g k : Nat} {dp ba : Option Addr} {bc : Nat} {ty : TypeId} (hF : Fil R_Span w W L g noSf k) (hkM : k + M.length ≤ L.length) (hsub : ∀ i x, M[i]? = some x → L[k + i]? = some x) (hdp : k < L.length → dp = some ⟨g, k * 2, none⟩) (hM : RdSl R_Span W W.heap.size M ba bc) :
    ∃ w', (Builtin.copy_ #[39, 39] ty #[.slice dp (L.length - k) (L.length - k), .slice ba M.length bc]).run Try.prog W = .ok (.int .i64 M.length) w' ∧ Fil R_Span w w' L g noSf (k + M.length) := by
  obtain ⟨i, hi, hz, hs, hby⟩ := infoSpan
  have ht : Try.prog.underlying 39 = some (.slice 25) := Try.underlying39
  by_cases h0 : M.length = 0
  · exact ⟨W, by rw [h0]; exact run_copy0 W ht hi _ _ _ _ _ _ (by simp), by rw [h0]; exact hF⟩
  obtain ⟨g', o, rfl, hg', hel⟩ := hM.2.2 (by omega)
  obtain rfl := hdp (by omega)
  have hfl : (M.flatMap fS).length = M.length * 2 := flatMap_len R_Span_ok flat_Span W M
  have hthere : ∀ j, j < M.length * 2 → ∃ u, W.cell? ⟨g, k * 2 + j, none⟩ = some u := fun j hj => hF.there _ (by rw [size_SpanS]; omega)
  have hcells : CellsAt W g' o (M.flatMap fS) := flatMap_cells R_Span_ok flat_Span W g' M o fun q x hx => by
    obtain ⟨us, hu, hr⟩ := hel q x hx
    rw [← flat_Span.rd hr]
    exact hu
  have hrun := run_copy2 (P := Try.prog) W (dT := 39) (sT := 39) (ty := ty) ht hi g (k * 2) (L.length - k) (L.length - k) ⟨g', o, none⟩ M.length bc (M.flatMap fS) M.length (by show min M.length (L.length - k) = _; omega) (by rw [hs]; exact hfl)
    (fun j v hj => by rw [show (⟨g', o, none⟩ : Addr).add j = ⟨g', o + j, none⟩ by unfold Addr.add; split <;> simp_all]; exact hcells j v hj)
    (fun j hj => by obtain ⟨u, hu⟩ := hthere j (by omega); rw [hu]; rfl) (fun j _ => hF.soft _)
    (fun v hv => by obtain ⟨y, _, hv⟩ := List.mem_flatMap.1 hv; simp [fS] at hv; rcases hv with rfl | rfl <;> rfl)
  refine ⟨_, hrun, fun q x hq hx => ?_, fun j hj => ?_, fun j => by rw [World.frozen?_setCells]; exact hF.soft j, fun _ _ h => h.elim, fun _ _ _ _ h => h.elim, hF.base, by rw [size_setCells]; exact hF.lt, ?_⟩
  · refine ⟨fS x, fun j d hj => ?_, flat_Span.ow _ _ _⟩
    have hj2 : j < 2 := (List.getElem?_eq_some_iff.1 hj).1
    rw [size_SpanS]
    by_cases hqk : q < k
    · rw [World.cell?_setCells_out _ _ _ _ _ (fun _ _ => .inl (by show q * 2 + j < k * 2; omega))]
      obtain ⟨us, hu, hr⟩ := hF.el q x hqk hx
      have e : us = fS x := by obtain ⟨x0, x1⟩ := x; exact ow0_Span hr
      subst e
      have := hu j d hj
      rwa [size_SpanS] at this
    · obtain ⟨p, rfl⟩ : ∃ p, q = k + p := ⟨q - k, by omega⟩
      have hp : p < M.length := by omega
      obtain ⟨y, hy⟩ := el_some hp
      have := hsub p y hy
      rw [hx] at this
      obtain rfl := Option.some.inj this
      have hfm : (M.flatMap fS)[p * 2 + j]? = some d := by
        have h9 := flatMap_at R_Span_ok flat_Span W M p x hy j d hj
        rw [size_SpanS] at h9
        exact h9
      obtain ⟨hl, hv⟩ := List.getElem?_eq_some_iff.1 hfm
      rw [show (k + p) * 2 + j = k * 2 + (p * 2 + j) by omega]
      rw [World.cell?_setCells_in g _ _ _ (fun j hj => by obtain ⟨u, hu⟩ := hthere j (by rw [hfl] at hj; exact hj); rw [hu]; rfl) _ hl]
      exact congrArg some hv
  · rw [size_SpanS] at hj
    by_cases hin : j < k * 2 ∨ k * 2 + M.length * 2 ≤ j
    · rw [World.cell?_setCells_out _ _ _ _ _ (fun _ _ => by show j < k * 2 ∨ k * 2 + (M.flatMap fS).length ≤ j; rw [hfl]; exact hin)]
      exact hF.there j (by rw [size_SpanS]; exact hj)
    · obtain ⟨p, rfl⟩ : ∃ p, j = k * 2 + p := ⟨j - k * 2, by omega⟩
      exact ⟨_, World.cell?_setCells_in g _ _ _ (fun j hj => by obtain ⟨u, hu⟩ := hthere j (by rw [hfl] at hj; exact hj); rw [hu]; rfl) p (by rw [hfl]; omega)⟩
  · exact below_setCells (Nat.le_refl _) _ _ _ hF.below
theorem flat_take {Ls : List (List D_Span)} {k : Nat} {M : List D_Span} (h : Ls[k]? = some M) : (Ls.take (k + 1)).flatten = (Ls.take k).flatten ++ M := by
  rw [List.take_add_one, h, Option.toList_some, List.flatten_append]; simp
theorem flat_pre {Ls : List (List D_Span)} (k : Nat) : ∃ r, Ls.flatten = (Ls.take k).flatten ++ r := ⟨(Ls.drop k).flatten, by rw [← List.flatten_append, List.take_append_drop]⟩
theorem flat_at {Ls : List (List D_Span)} {k : Nat} {M : List D_Span} (h : Ls[k]? = some M) : (Ls.take k).flatten.length + M.length ≤ Ls.flatten.length ∧ ∀ i x, M[i]? = some x → Ls.flatten[(Ls.take k).flatten.length + i]? = some x := by
  obtain ⟨r, hr⟩ := flat_pre (Ls := Ls) (k + 1)
  rw [flat_take h] at hr
  refine ⟨by rw [hr, List.length_append, List.length_append]; omega, fun i x hx => ?_⟩
  have hi := el_lt hx
  rw [hr, List.getElem?_append_left (by rw [List.length_append]; omega), List.getElem?_append_right (by omega), Nat.add_sub_cancel_left]
  exact hx
set_option maxRecDepth 100000 in
set_option maxHeartbeats 3200000 in
theorem books_impl {Ls : List (List D_Span)} {a : Option Addr} {cap : Nat} {W : World} (hT : Ls.flatten.length ≤ 1048576) (h : RdSl (Sl R_Span) W W.heap.size Ls a cap) :
    Calls Try.prog 54 #[.slice a Ls.length cap] W (NewS R_Span Ls.flatten W) := by
  have H := Lib.hid h
  have hn : Ls.length ≤ 9223372036854775807 := by have h1 := h.1; have h2 := h.2.1; unfold maxLen at h2; omega
  clear h
  obtain ⟨T, hTT⟩ : ∃ T, Ls.flatten.length = T := ⟨_, rfl⟩
  have HT := Lib.hid hTT
  rw [hTT] at hT
  clear hTT
  have hmk := make_SpanS T hT
  obtain ⟨w0, hw0⟩ : ∃ w, w = W.alloc (.cells (zs_SpanS T) 25) := ⟨_, rfl⟩
  have HF0 := Lib.hid (show Fil R_Span W w0 Ls.flatten W.heap.size noSf 0 from by rw [hw0]; exact Fil.new (by rw [zs_SpanS_size, HT.out]))
  go_enter Try.func54, Try.ntmps54
  go_wp2
  go_loopw [12, 3] (fun i v wr => ∃ k : Nat, k ≤ Ls.length ∧ i = .int .i64 k ∧ v = .int .i64 (((Ls.take k).flatten.length : Nat) : Int) ∧ wr = W) (fun i _ _ => Ls.length - (intOf i).toNat)
  case atStart => exact ⟨0, Nat.zero_le _, rfl, rfl, rfl⟩
  case round =>
    obtain ⟨k, hk, rfl, rfl, rfl⟩ := hrel
    by_cases hlt : k < Ls.length
    · obtain ⟨M, hM⟩ := el_some hlt
      have hfa := flat_at hM
      have hft := flat_take hM
      obtain ⟨g, o, us, rfl, hg, hu, hr⟩ := H.out.at_ hM
      obtain ⟨ba, bc, rfl, hMr⟩ := hr
      have e0 : wr.cell? ⟨g, o + k, none⟩ = some (.slice ba M.length bc) := by simpa [show (Sl R_Span).size = 1 from rfl] using hu 0 _ rfl
      have hi0 : (0 : Int) ≤ (k : Int) := Int.natCast_nonneg _
      have hi1 : (k : Int) < (Ls.length : Int) := by omega
      have hlen : (Ls.take (k + 1)).flatten.length = (Ls.take k).flatten.length + M.length := by rw [hft, List.length_append]
      have hle := hfa.1
      rw [HT.out] at hle
      obtain ⟨t0, ht0⟩ : ∃ t, (Ls.take k).flatten.length = t := ⟨_, rfl⟩
      rw [ht0] at hlen hle ⊢
      have HL := Lib.hid hlen
      have hwr : IntKind.i64.wrap ((t0 : Int) + (M.length : Int)) = ((t0 + M.length : Nat) : Int) := by rw [← Int.natCast_add]; exact IntWalk.i64_in _ (by omega)
      clear hfa hft hMr hu hM hlen ht0
      go_wp2
      go_roundw
      case rel => exact ⟨k + 1, by omega, by go_num, by rw [HL.out, Int.natCast_add], trivial⟩
      case measure => simp [intOf]; omega
    · have hdl : decide ((k : Int) < (Ls.length : Int)) = false := decide_eq_false (by omega)
      obtain rfl : k = Ls.length := by omega
      rw [List.take_length, HT.out]
      go_wp2
      rw [← hw0]
      have HB0 := Lib.hid (show Below wr.heap.size wr w0 from by rw [hw0]; exact (Below.refl _ _).alloc (Nat.le_refl _) _)
      clear hw0 hmk hdl hlt hk
      go_loopw [25, 7] (fun i v wq => ∃ k : Nat, k ≤ Ls.length ∧ i = .int .i64 k ∧ v = .int .i64 (((Ls.take k).flatten.length : Nat) : Int) ∧ Hid (Fil R_Span wr wq Ls.flatten wr.heap.size noSf (Ls.take k).flatten.length)) (fun i _ _ => Ls.length - (intOf i).toNat)
      case atStart => exact ⟨0, Nat.zero_le _, rfl, rfl, HF0⟩
      case round =>
        obtain ⟨k, hk, rfl, rfl, HF⟩ := hrel
        rename World => wq
        by_cases hlt : k < Ls.length
        · obtain ⟨M, hM⟩ := el_some hlt
          have hfa := flat_at hM
          have hft := flat_take hM
          have hB := HF.out.below
          obtain ⟨g, o, us, rfl, hg, hu, hr⟩ := H.out.at_ hM
          obtain ⟨ba, bc, rfl, hMr⟩ := hr
          have e0 : wq.cell? ⟨g, o + k, none⟩ = some (.slice ba M.length bc) := (hB.cell (p := ⟨g, o + k, none⟩) hg).trans (by simpa [show (Sl R_Span).size = 1 from rfl] using hu 0 _ rfl)
          have hi0 : (0 : Int) ≤ (k : Int) := Int.natCast_nonneg _
          have hi1 : (k : Int) < (Ls.length : Int) := by omega
          have hlen : (Ls.take (k + 1)).flatten.length = (Ls.take k).flatten.length + M.length := by rw [hft, List.length_append]
          have hle := hfa.1
          rw [HT.out] at hle
          obtain ⟨t0, ht0⟩ : ∃ t, (Ls.take k).flatten.length = t := ⟨_, rfl⟩
          obtain ⟨wn, hrun, hF2⟩ := copy_fil (ty := 3) (dp := if T = t0 then some ⟨wr.heap.size, 0, none⟩ else some ⟨wr.heap.size, t0 * 2, none⟩) (by have := HF.out; rw [ht0] at this; exact this) (by rw [← ht0]; exact hfa.1) (by rw [← ht0]; exact hfa.2) (fun h => by rw [HT.out] at h; rw [if_neg (by omega)]) (mv_rdB R_Span_ok hMr hB)
          rw [HT.out] at hrun
          have HF2 := Lib.hid hF2
          rw [ht0] at hlen ⊢
          have HL := Lib.hid hlen
          have hwr : IntKind.i64.wrap ((t0 : Int) + (M.length : Int)) = ((t0 + M.length : Nat) : Int) := by rw [← Int.natCast_add]; exact IntWalk.i64_in _ (by omega)
          have ht0' : (0 : Int) ≤ (t0 : Int) := Int.natCast_nonneg _
          have ht1 : (t0 : Int) ≤ (T : Int) := by omega
          clear hfa hft hMr hu hM hlen ht0 hB hF2
          by_cases hTt : T = t0
          · rw [if_pos hTt] at hrun
            subst hTt
            simp only [Nat.sub_self] at hrun
            go_wp2
            go_roundw
            case rel => exact ⟨k + 1, by omega, by go_num, by rw [HL.out, Int.natCast_add], by rw [HL.out]; exact HF2⟩
            case measure => simp [intOf]; omega
          · rw [if_neg hTt] at hrun
            go_wp2
            go_roundw
            case rel => exact ⟨k + 1, by omega, by go_num, by rw [HL.out, Int.natCast_add], by rw [HL.out]; exact HF2⟩
            case measure => simp [intOf]; omega
        · have hdl : decide ((k : Int) < (Ls.length : Int)) = false := decide_eq_false (by omega)
          obtain rfl : k = Ls.length := by omega
          have hF3 := HF.out
          rw [List.take_length] at hF3
          have hnw := hF3.news (by rw [HT.out]; unfold maxLen; omega)
          rw [HT.out] at hnw
          have HNW := Lib.hid hnw
          clear hF3 hnw
          go_wp2
          go_ret
          exact HNW.out
end Go.Proofs.Ytfciojkibklkfaa.RepC
end
section
namespace Go.Proofs.Ytfciojkibklkfaa.RepC
open Go.RowKit RowC ValC SpanC KeptC
set_option linter.unusedVariables false
set_option linter.unusedSimpArgs false
def IxP (L : List D_Span) (p : D_Span → Bool) (W : World) (e : Ending) (w' : World) : Prop :=
  ∃ z : Int, e = .returned (.int .i64 z) ∧ Below W.heap.size W w' ∧ ((z = -1 ∧ ∀ (i : Nat) x, L[i]? = some x → p x = false) ∨ ∃ (q : Nat) (x : D_Span), z = (q : Int) ∧ L[q]? = some x ∧ p x = true ∧ ∀ (i : Nat) y, i < q → L[i]? = some y → p y = false)
theorem ixP_elim {L : List D_Span} {p : D_Span → Bool} {W : World} {e : Ending} {w' : World} (h : IxP L p W e w') : ∃ z : Int, e = .returned (.int .i64 z) ∧ Below W.heap.size W w' ∧ ((z = -1 ∧ ∀ (i : Nat) x, L[i]? = some x → p x = false) ∨ ∃ (q : Nat) (x : D_Span), z = (q : Int) ∧ L[q]? = some x ∧ p x = true ∧ ∀ (i : Nat) y, i < q → L[i]? = some y → p y = false) := h
def PredS (F bx : Nat) (v0 : Value) (p : D_Span → Bool) : Prop := ∀ (w : World) (x0 x1 : Int), w.cell? ⟨bx, 0, none⟩ = some v0 → Calls Try.prog F #[.agg #[.int .i64 x0, .int .i64 x1], .pointer (some ⟨bx, 0, none⟩)] w (IsB (p (x0, x1)) w)
set_option maxRecDepth 100000 in
set_option maxHeartbeats 1600000 in
theorem indexf_spans {F bx : Nat} {v0 : Value} {p : D_Span → Bool} (eg : ∀ args w, (callFunc F args).run Try.prog w = .ok (.enter F args) w) (hp : PredS F bx v0 p) {L : List D_Span} {a : Option Addr} {c : Nat} {W : World} (hbx : W.cell? ⟨bx, 0, none⟩ = some v0) (hbl : bx < W.heap.size) (h : RdSl R_Span W W.heap.size L a c) :
    Calls Try.prog 72 #[.slice a L.length c, .func (.func F) #[] #[.pointer (some ⟨bx, 0, none⟩)]] W (IxP L p W) := by
  have H := Lib.hid h
  have HP := Lib.hid hp
  have HX := Lib.hid hbx
  have hn : L.length ≤ 9223372036854775807 := by have h1 := h.1; have h2 := h.2.1; unfold maxLen at h2; omega
  clear h hp hbx
  go_enter Try.func72, Try.ntmps72
  go_wp2
  go_loopw [8] (fun i wr => ∃ k : Nat, k ≤ L.length ∧ i = .int .i64 k ∧ Hid (∀ i x, i < k → L[i]? = some x → p x = false) ∧ Below W.heap.size W wr) (fun i _ => L.length - (intOf i).toNat)
  case atStart => exact ⟨0, Nat.zero_le _, rfl, Lib.hid fun i x h => absurd h (Nat.not_lt_zero _), Below.refl _ _⟩
  case round =>
    obtain ⟨k, hk, rfl, HA, hB⟩ := hrel
    have HB := Lib.hid hB
    have hsz := hB.size
    by_cases hlt : k < L.length
    · obtain ⟨x, hx⟩ := el_some hlt
      obtain ⟨g, o, us, rfl, hg, hu, hr⟩ := H.out.at_ hx
      obtain ⟨x0, x1⟩ := x
      obtain rfl := rd_Span hr
      have e0 : wr.cell? ⟨g, o + k * 2, none⟩ = some (.int .i64 x0) := (hB.cell (p := ⟨g, o + k * 2, none⟩) hg).trans (by simpa [size_SpanS] using hu 0 _ rfl)
      have e1 : wr.cell? ⟨g, o + k * 2 + 1, none⟩ = some (.int .i64 x1) := (hB.cell (p := ⟨g, o + k * 2 + 1, none⟩) hg).trans (by simpa [size_SpanS, Nat.add_assoc] using hu 1 _ rfl)
      have hi0 : (0 : Int) ≤ (k : Int) := Int.natCast_nonneg _
      have hi1 : (k : Int) < (L.length : Int) := by omega
      have HL := Lib.hid hx
      have hcl := HP.out wr x0 x1 ((hB.cell (p := ⟨bx, 0, none⟩) hbl).trans HX.out)
      have HC := Lib.hid hcl
      clear hB hx hu hr hcl
      go_wp2_with fail
      refine HC.out.mono ?_
      intro e w1 h
      obtain ⟨rfl, hb⟩ := isB_elim h
      have HB1 := Lib.hid (HB.out.trans (hb.mono hsz))
      clear h hb e0 e1
      obtain ⟨b, hb⟩ : ∃ b, p (x0, x1) = b := ⟨_, rfl⟩
      have HBb := Lib.hid hb
      rw [hb]
      clear hb
      cases b with
      | true =>
        go_wp2
        go_ret
        exact ⟨_, rfl, HB1.out, .inr ⟨k, (x0, x1), rfl, HL.out, HBb.out, HA.out⟩⟩
      | false =>
        have HA2 := Lib.hid (show ∀ i x, i < k + 1 → L[i]? = some x → p x = false from fun i x hi hx => by
          rcases Nat.lt_succ_iff_lt_or_eq.1 hi with h | h
          · exact HA.out i x h hx
          · subst h; have h9 := HL.out; rw [hx] at h9; cases h9; exact HBb.out)
        go_wp2
        go_roundw
        case rel => exact ⟨k + 1, by omega, by go_num, HA2, HB1.out⟩
        case measure => simp [intOf]; omega
    · have hdl : decide ((k : Int) < (L.length : Int)) = false := decide_eq_false (by omega)
      obtain rfl : k = L.length := by omega
      clear hB
      go_wp2
      go_ret
      exact ⟨-1, rfl, HB.out, .inl ⟨rfl, fun i x hx => HA.out i x (el_lt hx) hx⟩⟩
theorem run_clear_spans (W : World) (g k n c : Nat) (hn : 0 < n) (hc : ∀ j, j < n * 2 → ∃ u, W.cell? ⟨g, k + j, none⟩ = some u) (hf : ∀ j, W.frozen? ⟨g, j, none⟩ = false) :
    ∃ w', (∀ ty, (Builtin.clear_ #[39] ty #[.slice (some ⟨g, k, none⟩) n c]).run Try.prog W = .ok (.tuple #[]) w') ∧ (∀ j, j < k → w'.cell? ⟨g, j, none⟩ = W.cell? ⟨g, j, none⟩) ∧ (∀ j, w'.frozen? ⟨g, j, none⟩ = false) ∧ Off (fun x => x = g) W w' := by
  have hzl : (Builtin.zeroCells (Value.agg #[.int .i64 0, .int .i64 0]).cells n).toList.length = n * 2 := by
    simp [Builtin.zeroCells, Value.cells]
  have hone : ∀ v ∈ (Builtin.zeroCells (Value.agg #[.int .i64 0, .int .i64 0]).cells n).toList, v.oneCell' = true := by
    intro v hv
    simp [Builtin.zeroCells, Value.cells] at hv
    obtain ⟨i, _, rfl⟩ := hv
    rcases Nat.mod_two_eq_zero_or_one i with e | e <;> rw [e] <;> rfl
  have hst := run_storeCells_cells (P := Try.prog) g k (Builtin.zeroCells (Value.agg #[.int .i64 0, .int .i64 0]).cells n).toList 0 W (fun j hj => by rw [hzl] at hj; obtain ⟨u, hu⟩ := hc j hj; rw [Nat.add_zero, hu]; rfl) (fun j _ => hf _) hone
  simp only [Nat.add_zero] at hst
  obtain ⟨iL, hiL, hzL1, hsL, hbL⟩ := infoSpan
  have hv : ∀ w, (zeroValue 25).run Try.prog w = .ok (.agg #[.int .i64 0, .int .i64 0]) w := fun w => by
    simp [zeroValue, typeInfo, hiL, hzL1]
  refine ⟨W.setCells g k (Builtin.zeroCells (Value.agg #[.int .i64 0, .int .i64 0]).cells n).toList, ?_, fun j hj => ?_, fun j => ?_, off_setCells _ _ _ (Off.refl _ _)⟩
  · intro ty
    obtain ⟨m, rfl⟩ : ∃ m, n = m + 1 := ⟨n - 1, by omega⟩
    simp [Builtin.clear_, run_underlying Try.underlying39, hv, hst]
  · exact World.cell?_setCells_out _ _ _ _ _ (fun _ _ => .inl hj)
  · rw [World.frozen?_setCells]; exact hf j
structure DelM (W wr : World) (L : List D_Span) (g : Nat) (p : D_Span → Bool) (j : Nat) : Prop where
  low : ∀ r x, ((L.take j).filter fun y => !p y)[r]? = some x → wr.cell? ⟨g, r * 2, none⟩ = some (.int .i64 x.1) ∧ wr.cell? ⟨g, r * 2 + 1, none⟩ = some (.int .i64 x.2)
  high : ∀ r x, j ≤ r → L[r]? = some x → wr.cell? ⟨g, r * 2, none⟩ = some (.int .i64 x.1) ∧ wr.cell? ⟨g, r * 2 + 1, none⟩ = some (.int .i64 x.2)
  there : ∀ q, q < L.length * 2 → ∃ u, wr.cell? ⟨g, q, none⟩ = some u
  soft : ∀ q, wr.frozen? ⟨g, q, none⟩ = false
  off : Off (fun k => k = g) W wr
  lt : g < W.heap.size
section
variable {W wr w' : World} {L : List D_Span} {g j : Nat} {p : D_Span → Bool}
theorem kept_le : ((L.take j).filter fun y => !p y).length ≤ j := Nat.le_trans (List.length_filter_le _ _) (by rw [List.length_take]; omega)
theorem DelM.call (h : DelM W wr L g p j) (hb : Below wr.heap.size wr w') : DelM W w' L g p j := by
  have hg : g < wr.heap.size := Nat.lt_of_lt_of_le h.lt h.off.size
  exact ⟨fun r x hx => ⟨(hb.cell (p := ⟨g, r * 2, none⟩) hg).trans (h.low r x hx).1, (hb.cell (p := ⟨g, r * 2 + 1, none⟩) hg).trans (h.low r x hx).2⟩,
    fun r x hr hx => ⟨(hb.cell (p := ⟨g, r * 2, none⟩) hg).trans (h.high r x hr hx).1, (hb.cell (p := ⟨g, r * 2 + 1, none⟩) hg).trans (h.high r x hr hx).2⟩,
    fun q hq => by obtain ⟨u, hu⟩ := h.there q hq; exact ⟨u, (hb.cell (p := ⟨g, q, none⟩) hg).trans hu⟩, fun q => (hb.frozen (p := ⟨g, q, none⟩) hg).trans (h.soft q), h.off.of_below hb, h.lt⟩
theorem DelM.start {k : Nat} {x : D_Span} {S : Nat → Prop} {a : Option Addr} {c : Nat} (hO : OwSl R_Span W S L (some ⟨g, 0, none⟩) c) (hg : g < W.heap.size) (hb : Below W.heap.size W wr) (hx : L[k]? = some x) (hpx : p x = true) (hall : ∀ i y, i < k → L[i]? = some y → p y = false) : DelM W wr L g p (k + 1) ∧ ((L.take (k + 1)).filter fun y => !p y).length = k := by
  have hk := el_lt hx
  obtain ⟨g0, Sf, e0, _, hso, _, _, hel⟩ := hO.2.2 (by omega)
  cases e0
  have hcell : ∀ r y, L[r]? = some y → wr.cell? ⟨g, r * 2, none⟩ = some (.int .i64 y.1) ∧ wr.cell? ⟨g, r * 2 + 1, none⟩ = some (.int .i64 y.2) := fun r y hy => by
    obtain ⟨us, hu, hr⟩ := hel r y hy
    obtain ⟨y0, y1⟩ := y
    obtain rfl := ow0_Span hr
    rw [size_SpanS] at hu
    exact ⟨(hb.cell (p := ⟨g, r * 2, none⟩) hg).trans (by simpa using hu 0 _ rfl), (hb.cell (p := ⟨g, r * 2 + 1, none⟩) hg).trans (hu 1 _ rfl)⟩
  have hT : (L.take (k + 1)).filter (fun y => !p y) = L.take k := by
    rw [List.take_add_one, hx, Option.toList_some, List.filter_append]
    have h1 : (L.take k).filter (fun y => !p y) = L.take k := List.filter_eq_self.2 fun y hy => by
      obtain ⟨i, hi, rfl⟩ := List.getElem_of_mem hy
      have hi2 : i < k := by rw [List.length_take] at hi; omega
      rw [hall i _ hi2 (by rw [List.getElem_take, List.getElem?_eq_getElem])]
      rfl
    rw [h1]
    simp [hpx]
  refine ⟨⟨fun r y hy => ?_, fun r y _ hy => hcell r y hy, fun q hq => ?_, fun q => (hb.frozen (p := ⟨g, q, none⟩) hg).trans (hso q), (Off.refl _ W).of_below hb, hg⟩, by rw [hT, List.length_take]; omega⟩
  · rw [hT, List.getElem?_take] at hy
    split at hy
    · exact hcell r y hy
    · cases hy
  · obtain ⟨y, hy⟩ := el_some (show q / 2 < L.length by omega)
    rcases Nat.mod_two_eq_zero_or_one q with e | e
    · exact ⟨_, by rw [show q = q / 2 * 2 by omega]; exact (hcell _ y hy).1⟩
    · exact ⟨_, by rw [show q = q / 2 * 2 + 1 by omega]; exact (hcell _ y hy).2⟩
theorem DelM.drop (h : DelM W wr L g p j) {x : D_Span} (hx : L[j]? = some x) (hp : p x = true) : DelM W wr L g p (j + 1) ∧ ((L.take (j + 1)).filter fun y => !p y) = ((L.take j).filter fun y => !p y) := by
  have hT : ((L.take (j + 1)).filter fun y => !p y) = ((L.take j).filter fun y => !p y) := by
    rw [List.take_add_one, hx, Option.toList_some, List.filter_append]; simp [hp]
  exact ⟨⟨fun r y hy => h.low r y (by rw [hT] at hy; exact hy), fun r y hr hy => h.high r y (by omega) hy, h.there, h.soft, h.off, h.lt⟩, hT⟩
theorem DelM.keep (h : DelM W wr L g p j) {i : Nat} {x : D_Span} (hx : L[j]? = some x) (hp : p x = false) (hi : ((L.take j).filter fun y => !p y).length = i) :
    DelM W ((wr.setCell ⟨g, i * 2, none⟩ (.int .i64 x.1)).setCell ⟨g, i * 2 + 1, none⟩ (.int .i64 x.2)) L g p (j + 1) ∧ ((L.take (j + 1)).filter fun y => !p y).length = i + 1 := by
  have hT : ((L.take (j + 1)).filter fun y => !p y) = ((L.take j).filter fun y => !p y) ++ [x] := by
    rw [List.take_add_one, hx, Option.toList_some, List.filter_append]; simp [hp]
  have hij : i ≤ j := by rw [← hi]; exact kept_le
  have hj := el_lt hx
  have far : ∀ q, q ≠ i * 2 → q ≠ i * 2 + 1 → ((wr.setCell ⟨g, i * 2, none⟩ (.int .i64 x.1)).setCell ⟨g, i * 2 + 1, none⟩ (.int .i64 x.2)).cell? ⟨g, q, none⟩ = wr.cell? ⟨g, q, none⟩ := fun q h1 h2 => by
    rw [World.cell?_setCell_other _ _ _ _ (fun e => by injection e with _ e2; omega), World.cell?_setCell_other _ _ _ _ (fun e => by injection e with _ e2; omega)]
  obtain ⟨u0, hu0⟩ := h.there (i * 2) (by omega)
  obtain ⟨u1, hu1⟩ := h.there (i * 2 + 1) (by omega)
  have n0 : ((wr.setCell ⟨g, i * 2, none⟩ (.int .i64 x.1)).setCell ⟨g, i * 2 + 1, none⟩ (.int .i64 x.2)).cell? ⟨g, i * 2, none⟩ = some (.int .i64 x.1) := by
    rw [World.cell?_setCell_other _ _ _ _ (fun e => by injection e with _ e2; omega)]
    exact World.cell?_setCell_same _ _ _ hu0
  have n1 : ((wr.setCell ⟨g, i * 2, none⟩ (.int .i64 x.1)).setCell ⟨g, i * 2 + 1, none⟩ (.int .i64 x.2)).cell? ⟨g, i * 2 + 1, none⟩ = some (.int .i64 x.2) := World.cell?_setCell_same _ _ _ (by rw [World.cell?_setCell_other _ _ _ _ (fun e => by injection e with _ e2; omega)]; exact hu1)
  refine ⟨⟨fun r y hy => ?_, fun r y hr hy => ?_, fun q hq => ?_, fun q => by simp only [World.frozen?_setCell]; exact h.soft q, (h.off.setCell rfl _).setCell rfl _, h.lt⟩, by rw [hT, List.length_append, hi]; rfl⟩
  · rw [hT] at hy
    by_cases hri : r < i
    · rw [List.getElem?_append_left (by omega)] at hy
      exact ⟨(far _ (by omega) (by omega)).trans (h.low r y hy).1, (far _ (by omega) (by omega)).trans (h.low r y hy).2⟩
    · have hrl := el_lt hy
      rw [List.length_append, hi] at hrl
      simp at hrl
      obtain rfl : r = i := by omega
      rw [List.getElem?_append_right (by omega), hi, Nat.sub_self] at hy
      simp at hy
      subst hy
      exact ⟨n0, n1⟩
  · exact ⟨(far _ (by omega) (by omega)).trans (h.high r y (by omega) hy).1, (far _ (by omega) (by omega)).trans (h.high r y (by omega) hy).2⟩
  · by_cases h1 : q = i * 2
    · subst h1; exact ⟨_, n0⟩
    · by_cases h2 : q = i * 2 + 1
      · subst h2; exact ⟨_, n1⟩
      · obtain ⟨u, hu⟩ := h.there q hq
        exact ⟨u, (far _ h1 h2).trans hu⟩
end
def DelR (L : List D_Span) (p : D_Span → Bool) (S : Nat → Prop) (a : Option Addr) (c : Nat) (W : World) (e : Ending) (w' : World) : Prop :=
  e = .returned (.slice a (L.filter fun y => !p y).length c) ∧ OwSl R_Span w' S (L.filter fun y => !p y) a c ∧ Off S W w'
theorem delR_elim {L : List D_Span} {p : D_Span → Bool} {S : Nat → Prop} {a : Option Addr} {c : Nat} {W : World} {e : Ending} {w' : World} (h : DelR L p S a c W e w') : e = .returned (.slice a (L.filter fun y => !p y).length c) ∧ OwSl R_Span w' S (L.filter fun y => !p y) a c ∧ Off S W w' := h
end Go.Proofs.Ytfciojkibklkfaa.RepC
end
