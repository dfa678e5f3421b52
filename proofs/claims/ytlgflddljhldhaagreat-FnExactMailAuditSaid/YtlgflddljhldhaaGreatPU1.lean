/- Of this claim's texts the part 1: Vals Rep Rep2 Rep3 Held JobT. -/
import Derived.LoopTactic
import Derived.BigQuiet
import Derived.Deep.QuietTactic
import Derived.Deep.RegionWith
import Derived.Deep.RegionHeld3
import Derived.Deep.DeepCutAuto
import Derived.RegionTactic
import Derived.WalkSpells
import Derived.WalkLawsBesides
import Derived.IntWalk
import Derived.Lib.Hide
import Derived.Laws.MakeOwn
import Derived.Laws.Entries
import Derived.Test.YtlgflddljhldhaaGreatPU0
section
namespace Go.Proofs.YtlgflddljhldhaaGreat.ValC
open Go.RowKit RowC
def Rg (lo hi k : Nat) : Prop := lo ≤ k ∧ k < hi
structure Off (S : Nat → Prop) (w w' : World) : Prop where
  os : w'.os = w.os
  tape : w'.tape = w.tape
  output : w'.output = w.output
  size : w.heap.size ≤ w'.heap.size
  block : ∀ k, k < w.heap.size → ¬ S k → w'.heap[k]? = w.heap[k]?
theorem Off.refl (S : Nat → Prop) (w : World) : Off S w w := ⟨rfl, rfl, rfl, Nat.le_refl _, fun _ _ _ => rfl⟩
theorem Off.trans {S : Nat → Prop} {a b c : World} (h : Off S a b) (k : Off S b c) : Off S a c :=
  ⟨k.os.trans h.os, k.tape.trans h.tape, k.output.trans h.output, Nat.le_trans h.size k.size, fun i hi hs => (k.block i (Nat.lt_of_lt_of_le hi h.size) hs).trans (h.block i hi hs)⟩
theorem Off.drew {S : Nat → Prop} {a w : World} (h : Off S a w) : Off S a w.drew := ⟨h.os, h.tape, h.output, h.size, h.block⟩
theorem Off.alloc {S : Nat → Prop} {a w : World} (h : Off S a w) (o : Obj) : Off S a (w.alloc o) := h.trans ⟨rfl, rfl, rfl, by simp, fun _ hk _ => Below.heap_alloc _ _ _ hk⟩
theorem Off.setCell {S : Nat → Prop} {a w : World} (h : Off S a w) {p : Addr} (hp : S p.block) (u : Value) : Off S a (w.setCell p u) :=
  h.trans ⟨rfl, rfl, rfl, by simp [World.setCell], fun _ _ hs => Below.heap_setCell _ _ _ _ (fun e => hs (e ▸ hp))⟩
theorem Off.of_below {S : Nat → Prop} {a w w' : World} (h : Off S a w) (k : Below w.heap.size w w') : Off S a w' := h.trans ⟨k.os, k.tape, k.output, k.size, fun i hi _ => k.block i hi⟩
theorem Off.below {S : Nat → Prop} {B : Nat} {w w' : World} (h : Off S w w') (hB : B ≤ w.heap.size) (hS : ∀ k, S k → B ≤ k) : Below B w w' :=
  ⟨h.os, h.tape, h.output, h.size, fun k hk => h.block k (by omega) (fun hs => by have := hS k hs; omega)⟩
theorem Off.more {S T : Nat → Prop} {w w' : World} (h : Off S w w') (hST : ∀ k, S k → T k) : Off T w w' := ⟨h.os, h.tape, h.output, h.size, fun k hk ht => h.block k hk (fun hs => ht (hST k hs))⟩
section
variable {W W' : World} {S T : Nat → Prop} {v : Value} {n size : Nat} {c d : Nat → Value}
end
def IsB (b : Bool) (w : World) (e : Ending) (w' : World) : Prop := e = .returned (.bool b) ∧ Below w.heap.size w w'
theorem isB_elim {b : Bool} {w : World} {e : Ending} {w' : World} (h : IsB b w e w') : e = .returned (.bool b) ∧ Below w.heap.size w w' := h
end Go.Proofs.YtlgflddljhldhaaGreat.ValC
end
section
namespace Go.Proofs.YtlgflddljhldhaaGreat.RepC
open Go.RowKit RowC ValC
def CellsAt (W : World) (g o : Nat) (cs : List Value) : Prop := ∀ j c, cs[j]? = some c → W.cell? ⟨g, o + j, none⟩ = some c
theorem CellsAt.keep {W W' : World} {g o : Nat} {cs : List Value} (h : CellsAt W g o cs) (hb : W'.heap[g]? = W.heap[g]?) : CellsAt W' g o cs := fun j c hc => (World.cell?_of_block (a := ⟨g, o + j, none⟩) hb).trans (h j c hc)
theorem CellsAt.app {W : World} {g o : Nat} {cs ds : List Value} : CellsAt W g o (cs ++ ds) ↔ CellsAt W g o cs ∧ CellsAt W g (o + cs.length) ds := by
  constructor
  · intro h
    refine ⟨fun j c hc => h j c ?_, fun j c hc => ?_⟩
    · have hj := (List.getElem?_eq_some_iff.1 hc).1
      rw [List.getElem?_append_left hj]; exact hc
    · have := h (cs.length + j) c (by rw [List.getElem?_append_right (by omega)]; simpa using hc)
      rw [Nat.add_assoc]
      exact this
  · rintro ⟨h1, h2⟩ j c hc
    by_cases hj : j < cs.length
    · rw [List.getElem?_append_left hj] at hc; exact h1 j c hc
    · rw [List.getElem?_append_right (by omega)] at hc
      have := h2 _ c hc
      rw [show o + cs.length + (j - cs.length) = o + j by omega] at this
      exact this
theorem CellsAt.cons {W : World} {g o : Nat} {c : Value} {ds : List Value} : CellsAt W g o (c :: ds) ↔ W.cell? ⟨g, o, none⟩ = some c ∧ CellsAt W g (o + 1) ds := by
  constructor
  · intro h
    refine ⟨h 0 c rfl, fun j d hd => ?_⟩
    have := h (j + 1) d (by simpa using hd)
    rw [show o + (j + 1) = o + 1 + j by omega] at this
    exact this
  · rintro ⟨h1, h2⟩ j d hd
    cases j with
    | zero => simp at hd; subst hd; exact h1
    | succ j =>
      have := h2 j d (by simpa using hd)
      rw [show o + 1 + j = o + (j + 1) by omega] at this
      exact this
theorem CellsAt.nil {W : World} {g o : Nat} : CellsAt W g o [] := fun j c hc => by simp at hc
structure Rp (α : Type) where
  size : Nat
  rd : World → Nat → α → List Value → Prop
  ow : World → (Nat → Prop) → α → List Value → Prop
  mm : α → Int → Int → Prop
  mv : α → Int → Int → Prop
  cm : α → Nat
  cv : α → Nat
  sz : α → Nat
structure Ok {α : Type} (E : Rp α) : Prop where
  rd_len : ∀ {W B d cs}, E.rd W B d cs → cs.length = E.size
  ow_len : ∀ {W S d cs}, E.ow W S d cs → cs.length = E.size
  rd_below : ∀ {W W' B d cs}, E.rd W B d cs → Below B W W' → E.rd W' B d cs
  rd_more : ∀ {W B B' d cs}, E.rd W B d cs → B ≤ B' → E.rd W B' d cs
  ow_keep : ∀ {W W'} {S : Nat → Prop} {d cs}, E.ow W S d cs → (∀ k, S k → W'.heap[k]? = W.heap[k]?) → E.ow W' S d cs
  ow_more : ∀ {W} {S T : Nat → Prop} {d cs}, E.ow W S d cs → (∀ k, S k → T k) → E.ow W T d cs
  ow_rd : ∀ {W} {S : Nat → Prop} {B d cs}, E.ow W S d cs → (∀ k, S k → k < B) → E.rd W B d cs
  one : ∀ {W B d cs}, E.rd W B d cs → ∀ u ∈ cs, u.oneCell' = true
def atom {α : Type} (f : α → Value) (mm : α → Int → Int → Prop) (sz : α → Nat) : Rp α := { size := 1, rd := fun _ _ d cs => cs = [f d], ow := fun _ _ d cs => cs = [f d], mm := mm, mv := fun _ k k' => k' = k, cm := fun _ => 1, cv := fun _ => 0, sz := sz }
theorem atom_ok {α : Type} (f : α → Value) (mm : α → Int → Int → Prop) (sz : α → Nat) (h1 : ∀ d, (f d).oneCell' = true) : Ok (atom f mm sz) where
  rd_len h := by rw [show _ = [f _] from h]; rfl
  ow_len h := by rw [show _ = [f _] from h]; rfl
  rd_below h _ := h
  rd_more h _ := h
  ow_keep h _ := h
  ow_more h _ := h
  ow_rd h _ := h
  one h u hu := by rw [show _ = [f _] from h] at hu; simp at hu; subst hu; exact h1 _
def I : Rp Int := atom (fun n => .int .i64 n) (fun d k k' => d = k ∧ k' = k + 1) (fun _ => 0)
theorem I_ok : Ok I := atom_ok _ _ _ fun _ => rfl
def Bo : Rp Bool := { atom (fun b => .bool b) (fun _ k k' => k' = k) (fun _ => 0) with cm := fun _ => 0 }
def Pr {α β : Type} (E : Rp α) (F : Rp β) : Rp (α × β) where
  size := E.size + F.size
  rd W B d cs := ∃ us vs, cs = us ++ vs ∧ E.rd W B d.1 us ∧ F.rd W B d.2 vs
  ow W S d cs := ∃ us vs, ∃ S1 S2 : Nat → Prop, cs = us ++ vs ∧ (∀ k, S1 k → S k) ∧ (∀ k, S2 k → S k) ∧ (∀ k, S1 k → ¬ S2 k) ∧ E.ow W S1 d.1 us ∧ F.ow W S2 d.2 vs
  mm d k k' := ∃ k1, E.mm d.1 k k1 ∧ F.mm d.2 k1 k'
  mv d k k' := ∃ k1, E.mv d.1 k k1 ∧ F.mv d.2 k1 k'
  cm d := E.cm d.1 + F.cm d.2
  cv d := E.cv d.1 + F.cv d.2
  sz d := E.sz d.1 + F.sz d.2
theorem Pr_ok {α β : Type} {E : Rp α} {F : Rp β} (hE : Ok E) (hF : Ok F) : Ok (Pr E F) where
  rd_len h := by obtain ⟨us, vs, rfl, h1, h2⟩ := h; rw [List.length_append, hE.rd_len h1, hF.rd_len h2]; rfl
  ow_len h := by obtain ⟨us, vs, _, _, rfl, _, _, _, h1, h2⟩ := h; rw [List.length_append, hE.ow_len h1, hF.ow_len h2]; rfl
  rd_below h hb := by obtain ⟨us, vs, rfl, h1, h2⟩ := h; exact ⟨us, vs, rfl, hE.rd_below h1 hb, hF.rd_below h2 hb⟩
  rd_more h hb := by obtain ⟨us, vs, rfl, h1, h2⟩ := h; exact ⟨us, vs, rfl, hE.rd_more h1 hb, hF.rd_more h2 hb⟩
  ow_keep h hb := by
    obtain ⟨us, vs, S1, S2, rfl, a, b, c, h1, h2⟩ := h
    exact ⟨us, vs, S1, S2, rfl, a, b, c, hE.ow_keep h1 (fun k hk => hb k (a k hk)), hF.ow_keep h2 (fun k hk => hb k (b k hk))⟩
  ow_more h hT := by
    obtain ⟨us, vs, S1, S2, rfl, a, b, c, h1, h2⟩ := h
    exact ⟨us, vs, S1, S2, rfl, fun k hk => hT k (a k hk), fun k hk => hT k (b k hk), c, h1, h2⟩
  ow_rd h hB := by
    obtain ⟨us, vs, S1, S2, rfl, a, b, c, h1, h2⟩ := h
    exact ⟨us, vs, rfl, hE.ow_rd h1 (fun k hk => hB k (a k hk)), hF.ow_rd h2 (fun k hk => hB k (b k hk))⟩
  one h u hu := by
    obtain ⟨us, vs, rfl, h1, h2⟩ := h
    rcases List.mem_append.1 hu with h | h
    · exact hE.one h1 u h
    · exact hF.one h2 u h
def RdSl {α : Type} (E : Rp α) (W : World) (B : Nat) (L : List α) (a : Option Addr) (cap : Nat) : Prop :=
  L.length ≤ cap ∧ cap ≤ maxLen ∧ (0 < L.length → ∃ g o, a = some ⟨g, o, none⟩ ∧ g < B ∧ ∀ i x, L[i]? = some x → ∃ us, CellsAt W g (o + i * E.size) us ∧ E.rd W B x us)
def OwSl {α : Type} (E : Rp α) (W : World) (S : Nat → Prop) (L : List α) (a : Option Addr) (cap : Nat) : Prop :=
  L.length ≤ cap ∧ cap ≤ maxLen ∧ (0 < L.length → ∃ g, ∃ Sf : Nat → Nat → Prop, a = some ⟨g, 0, none⟩ ∧ S g ∧ (∀ j, W.frozen? ⟨g, j, none⟩ = false) ∧ (∀ i k, Sf i k → S k ∧ k ≠ g) ∧ (∀ i j k, i < j → Sf i k → ¬ Sf j k) ∧
    ∀ i x, L[i]? = some x → ∃ us, CellsAt W g (i * E.size) us ∧ E.ow W (Sf i) x us)
def mmL {α : Type} (E : Rp α) : List α → Int → Int → Prop
  | [], k, k' => k' = k
  | x :: xs, k, k' => ∃ k1, E.mm x k k1 ∧ mmL E xs k1 k'
def sumL {α : Type} (f : α → Nat) : List α → Nat
  | [] => 0
  | x :: xs => f x + sumL f xs
def Sl {α : Type} (E : Rp α) : Rp (List α) where
  size := 1
  rd W B L cs := ∃ a cap, cs = [.slice a L.length cap] ∧ RdSl E W B L a cap
  ow W S L cs := ∃ a cap, cs = [.slice a L.length cap] ∧ OwSl E W S L a cap
  mm := mmL E
  mv := mmL E
  cm := sumL E.cm
  cv := sumL E.cm
  sz L := L.length + sumL E.sz L
theorem RdSl.below {α : Type} {E : Rp α} (hE : Ok E) {W W' : World} {B : Nat} {L : List α} {a : Option Addr} {cap : Nat} (h : RdSl E W B L a cap) (hb : Below B W W') : RdSl E W' B L a cap := by
  obtain ⟨h1, h2, h3⟩ := h
  refine ⟨h1, h2, fun hn => ?_⟩
  obtain ⟨g, o, ha, hg, hc⟩ := h3 hn
  refine ⟨g, o, ha, hg, fun i x hx => ?_⟩
  obtain ⟨us, hu, hr⟩ := hc i x hx
  exact ⟨us, hu.keep (hb.block g hg), hE.rd_below hr hb⟩
theorem RdSl.more {α : Type} {E : Rp α} (hE : Ok E) {W : World} {B B' : Nat} {L : List α} {a : Option Addr} {cap : Nat} (h : RdSl E W B L a cap) (hb : B ≤ B') : RdSl E W B' L a cap := by
  obtain ⟨h1, h2, h3⟩ := h
  refine ⟨h1, h2, fun hn => ?_⟩
  obtain ⟨g, o, ha, hg, hc⟩ := h3 hn
  refine ⟨g, o, ha, Nat.lt_of_lt_of_le hg hb, fun i x hx => ?_⟩
  obtain ⟨us, hu, hr⟩ := hc i x hx
  exact ⟨us, hu, hE.rd_more hr hb⟩
theorem OwSl.keep {α : Type} {E : Rp α} (hE : Ok E) {W W' : World} {S : Nat → Prop} {L : List α} {a : Option Addr} {cap : Nat} (h : OwSl E W S L a cap) (hb : ∀ k, S k → W'.heap[k]? = W.heap[k]?) : OwSl E W' S L a cap := by
  obtain ⟨h1, h2, h3⟩ := h
  refine ⟨h1, h2, fun hn => ?_⟩
  obtain ⟨g, Sf, ha, hg, hf, hs, hd, hc⟩ := h3 hn
  refine ⟨g, Sf, ha, hg, fun j => (World.frozen?_of_block (a := ⟨g, j, none⟩) (hb g hg)).trans (hf j), hs, hd, fun i x hx => ?_⟩
  obtain ⟨us, hu, hr⟩ := hc i x hx
  exact ⟨us, hu.keep (hb g hg), hE.ow_keep hr (fun k hk => hb k (hs i k hk).1)⟩
theorem OwSl.more {α : Type} {E : Rp α} {W : World} {S T : Nat → Prop} {L : List α} {a : Option Addr} {cap : Nat} (h : OwSl E W S L a cap) (hT : ∀ k, S k → T k) : OwSl E W T L a cap := by
  obtain ⟨h1, h2, h3⟩ := h
  refine ⟨h1, h2, fun hn => ?_⟩
  obtain ⟨g, Sf, ha, hg, hf, hs, hd, hc⟩ := h3 hn
  exact ⟨g, Sf, ha, hT g hg, hf, fun i k hk => ⟨hT k (hs i k hk).1, (hs i k hk).2⟩, hd, hc⟩
theorem OwSl.rd {α : Type} {E : Rp α} (hE : Ok E) {W : World} {S : Nat → Prop} {B : Nat} {L : List α} {a : Option Addr} {cap : Nat} (h : OwSl E W S L a cap) (hB : ∀ k, S k → k < B) : RdSl E W B L a cap := by
  obtain ⟨h1, h2, h3⟩ := h
  refine ⟨h1, h2, fun hn => ?_⟩
  obtain ⟨g, Sf, ha, hg, hf, hs, hd, hc⟩ := h3 hn
  refine ⟨g, 0, ha, hB g hg, fun i x hx => ?_⟩
  obtain ⟨us, hu, hr⟩ := hc i x hx
  exact ⟨us, by rw [Nat.zero_add]; exact hu, hE.ow_rd hr (fun k hk => hB k (hs i k hk).1)⟩
theorem Sl_ok {α : Type} {E : Rp α} (hE : Ok E) : Ok (Sl E) where
  rd_len h := by obtain ⟨a, cap, rfl, _⟩ := h; rfl
  ow_len h := by obtain ⟨a, cap, rfl, _⟩ := h; rfl
  rd_below h hb := by obtain ⟨a, cap, rfl, h⟩ := h; exact ⟨a, cap, rfl, h.below hE hb⟩
  rd_more h hb := by obtain ⟨a, cap, rfl, h⟩ := h; exact ⟨a, cap, rfl, h.more hE hb⟩
  ow_keep h hb := by obtain ⟨a, cap, rfl, h⟩ := h; exact ⟨a, cap, rfl, h.keep hE hb⟩
  ow_more h hT := by obtain ⟨a, cap, rfl, h⟩ := h; exact ⟨a, cap, rfl, h.more hT⟩
  ow_rd h hB := by obtain ⟨a, cap, rfl, h⟩ := h; exact ⟨a, cap, rfl, h.rd hE hB⟩
  one h u hu := by obtain ⟨a, cap, rfl, h⟩ := h; simp at hu; subst hu; rfl
theorem RdSl.at_ {α : Type} {E : Rp α} {W : World} {B : Nat} {L : List α} {a : Option Addr} {cap : Nat} (h : RdSl E W B L a cap) {i : Nat} {x : α} (hx : L[i]? = some x) :
    ∃ g o us, a = some ⟨g, o, none⟩ ∧ g < B ∧ CellsAt W g (o + i * E.size) us ∧ E.rd W B x us := by
  have hi := (List.getElem?_eq_some_iff.1 hx).1
  obtain ⟨g, o, ha, hg, hc⟩ := h.2.2 (by omega)
  obtain ⟨us, hu, hr⟩ := hc i x hx
  exact ⟨g, o, us, ha, hg, hu, hr⟩
theorem sumL_app {α : Type} (f : α → Nat) : ∀ (L M : List α), sumL f (L ++ M) = sumL f L + sumL f M
  | [], M => by simp [sumL]
  | x :: xs, M => by simp only [List.cons_append, sumL, sumL_app f xs M]; omega
theorem sumL_one {α : Type} (f : α → Nat) (x : α) : sumL f [x] = f x := by simp [sumL]
end Go.Proofs.YtlgflddljhldhaaGreat.RepC
end
section
namespace Go.Proofs.YtlgflddljhldhaaGreat.RepC
open Go.RowKit RowC ValC
def putCells (W : World) (g : Nat) : Nat → List Value → World
  | _, [] => W
  | o, c :: cs => putCells (W.setCell ⟨g, o, none⟩ c) g (o + 1) cs
theorem putCells_size (g : Nat) : ∀ (cs : List Value) (W : World) (o : Nat), (putCells W g o cs).heap.size = W.heap.size
  | [], _, _ => rfl
  | c :: cs, W, o => by simp only [putCells]; rw [putCells_size g cs]; simp [World.setCell]
theorem putCells_frozen (g : Nat) (p : Addr) : ∀ (cs : List Value) (W : World) (o : Nat), (putCells W g o cs).frozen? p = W.frozen? p
  | [], _, _ => rfl
  | c :: cs, W, o => by simp only [putCells]; rw [putCells_frozen g p cs]; simp
theorem putCells_block (g : Nat) {k : Nat} (hk : k ≠ g) : ∀ (cs : List Value) (W : World) (o : Nat), (putCells W g o cs).heap[k]? = W.heap[k]?
  | [], _, _ => rfl
  | c :: cs, W, o => by simp only [putCells]; rw [putCells_block g hk cs]; exact Below.heap_setCell _ _ _ _ hk
theorem putCells_off (g : Nat) : ∀ (cs : List Value) (W : World) (o : Nat), Off (fun x => x = g) W (putCells W g o cs)
  | [], W, _ => Off.refl _ _
  | c :: cs, W, o => by simp only [putCells]; exact (Off.setCell (S := fun x => x = g) (p := ⟨g, o, none⟩) (Off.refl _ W) rfl c).trans (putCells_off g cs _ _)
theorem putCells_other (g : Nat) {j : Nat} : ∀ (cs : List Value) (W : World) (o : Nat), (j < o ∨ o + cs.length ≤ j) → (putCells W g o cs).cell? ⟨g, j, none⟩ = W.cell? ⟨g, j, none⟩
  | [], _, _, _ => rfl
  | c :: cs, W, o, h => by
    simp only [List.length_cons] at h
    simp only [putCells]
    rw [putCells_other g cs _ _ (by omega), World.cell?_setCell_other _ _ _ _ (fun e => by injection e with _ e2; omega)]
theorem putCells_cells (g : Nat) : ∀ (cs : List Value) (W : World) (o : Nat), (∀ j, j < cs.length → ∃ u, W.cell? ⟨g, o + j, none⟩ = some u) → CellsAt (putCells W g o cs) g o cs
  | [], _, _, _ => CellsAt.nil
  | c :: cs, W, o, h => by
    simp only [putCells]
    refine CellsAt.cons.2 ⟨?_, putCells_cells g cs _ _ fun j hj => ?_⟩
    · obtain ⟨u, hu⟩ := h 0 (by simp)
      rw [putCells_other g cs _ _ (by omega)]
      exact World.cell?_setCell_same' _ _ _ (by rw [show W.cell? ⟨g, o, none⟩ = _ from hu]; rfl)
    · obtain ⟨u, hu⟩ := h (j + 1) (by simp only [List.length_cons]; omega)
      rw [World.cell?_setCell_other _ _ _ _ (fun e => by injection e with _ e2; omega), show o + 1 + j = o + (j + 1) by omega]
      exact ⟨u, hu⟩
structure Upd (W W' : World) (g lo hi : Nat) (T : Nat → Prop) : Prop where
  size : W.heap.size ≤ W'.heap.size
  block : ∀ k, k < W.heap.size → k ≠ g → ¬ T k → W'.heap[k]? = W.heap[k]?
  cells : ∀ j, (j < lo ∨ hi ≤ j) → W'.cell? ⟨g, j, none⟩ = W.cell? ⟨g, j, none⟩
  soft : ∀ j, W'.frozen? ⟨g, j, none⟩ = W.frozen? ⟨g, j, none⟩
theorem Upd.refl (W : World) (g lo hi : Nat) (T : Nat → Prop) : Upd W W g lo hi T := ⟨Nat.le_refl _, fun _ _ _ _ => rfl, fun _ _ => rfl, fun _ => rfl⟩
theorem Upd.trans {W W' W'' : World} {g lo hi : Nat} {T : Nat → Prop} (h : Upd W W' g lo hi T) (k : Upd W' W'' g lo hi T) : Upd W W'' g lo hi T :=
  ⟨Nat.le_trans h.size k.size, fun i h1 h2 h3 => (k.block i (Nat.lt_of_lt_of_le h1 h.size) h2 h3).trans (h.block i h1 h2 h3), fun j hj => (k.cells j hj).trans (h.cells j hj), fun j => (k.soft j).trans (h.soft j)⟩
theorem Upd.set (W : World) {g lo hi o : Nat} (T : Nat → Prop) (h : lo ≤ o ∧ o < hi) (u : Value) : Upd W (W.setCell ⟨g, o, none⟩ u) g lo hi T :=
  ⟨by simp [World.setCell], fun k _ hk _ => Below.heap_setCell _ _ _ _ hk, fun j hj => World.cell?_setCell_other _ _ _ _ (fun e => by injection e with _ e2; omega), fun j => by simp⟩
theorem Upd.put (W : World) {g lo hi o : Nat} (T : Nat → Prop) {cs : List Value} (h : lo ≤ o ∧ o + cs.length ≤ hi) : Upd W (putCells W g o cs) g lo hi T :=
  ⟨by rw [putCells_size]; exact Nat.le_refl _, fun k _ hk _ => putCells_block g hk cs W o, fun j hj => putCells_other g cs W o (by omega), fun j => putCells_frozen g _ cs W o⟩
theorem Upd.below {W W' : World} {g lo hi : Nat} {T : Nat → Prop} (h : Below W.heap.size W W') (hg : g < W.heap.size) : Upd W W' g lo hi T :=
  ⟨h.size, fun k hk _ _ => h.block k hk, fun j _ => h.cell (p := ⟨g, j, none⟩) hg, fun j => h.frozen (p := ⟨g, j, none⟩) hg⟩
theorem Upd.off {W W' : World} {g lo hi : Nat} {T : Nat → Prop} (h : Off T W W') (hg : g < W.heap.size) (hT : ¬ T g) : Upd W W' g lo hi T :=
  ⟨h.size, fun k hk _ ht => h.block k hk ht, fun j _ => World.cell?_of_block (a := ⟨g, j, none⟩) (h.block g hg hT), fun j => World.frozen?_of_block (a := ⟨g, j, none⟩) (h.block g hg hT)⟩
structure Row {α : Type} (E : Rp α) (W : World) (S : Nat → Prop) (L : List α) (g : Nat) (Sf : Nat → Nat → Prop) : Prop where
  own : S g
  soft : ∀ j, W.frozen? ⟨g, j, none⟩ = false
  sub : ∀ i k, Sf i k → S k ∧ k ≠ g
  dis : ∀ i j k, i < j → Sf i k → ¬ Sf j k
  el : ∀ i x, L[i]? = some x → ∃ us, CellsAt W g (i * E.size) us ∧ E.ow W (Sf i) x us
theorem OwSl.row {α : Type} {E : Rp α} {W : World} {S : Nat → Prop} {L : List α} {a : Option Addr} {cap : Nat} (h : OwSl E W S L a cap) (hn : 0 < L.length) : ∃ g Sf, a = some ⟨g, 0, none⟩ ∧ Row E W S L g Sf := by
  obtain ⟨g, Sf, ha, hg, hf, hs, hd, hc⟩ := h.2.2 hn
  exact ⟨g, Sf, ha, hg, hf, hs, hd, hc⟩
theorem Row.slice {α : Type} {E : Rp α} {W : World} {S : Nat → Prop} {L : List α} {g : Nat} {Sf : Nat → Nat → Prop} (h : Row E W S L g Sf) {cap : Nat} (h1 : L.length ≤ cap) (h2 : cap ≤ maxLen) : OwSl E W S L (some ⟨g, 0, none⟩) cap :=
  ⟨h1, h2, fun _ => ⟨g, Sf, rfl, h.own, h.soft, h.sub, h.dis, h.el⟩⟩
theorem mul_lt_el {i j p s : Nat} (hp : p < s) (hij : i ≠ j) : j * s + p < i * s ∨ (i + 1) * s ≤ j * s + p := by
  rcases Nat.lt_or_gt_of_ne hij with h | h
  · right
    have := Nat.mul_le_mul_right s (show i + 1 ≤ j by omega)
    omega
  · left
    have := Nat.mul_le_mul_right s (show j + 1 ≤ i by omega)
    rw [Nat.add_mul] at this
    omega
theorem Row.set {α : Type} {E : Rp α} (hE : Ok E) {W W' : World} {S : Nat → Prop} {L : List α} {g i : Nat} {Sf : Nat → Nat → Prop} {x : α} {us : List Value} (h : Row E W S L g Sf) (hS : ∀ k, S k → k < W.heap.size) (hU : Upd W W' g (i * E.size) ((i + 1) * E.size) (Sf i))
    (hc : CellsAt W' g (i * E.size) us) (hr : E.ow W' (Sf i) x us) : Row E W' S (L.set i x) g Sf := by
  refine ⟨h.own, fun j => (hU.soft j).trans (h.soft j), h.sub, h.dis, fun j y hy => ?_⟩
  by_cases e : i = j
  · subst e
    rw [List.getElem?_set] at hy
    split at hy
    · split at hy
      · injection hy with hy
        subst hy
        exact ⟨us, hc, hr⟩
      · cases hy
    · exact absurd rfl ‹_›
  · rw [List.getElem?_set_ne e] at hy
    obtain ⟨vs, hv, hw⟩ := h.el j y hy
    refine ⟨vs, fun p c hp => ?_, hE.ow_keep hw fun k hk => hU.block k (hS k (h.sub j k hk).1) (h.sub j k hk).2 (fun hi => ?_)⟩
    · have hl := (List.getElem?_eq_some_iff.1 hp).1
      rw [hE.ow_len hw] at hl
      rw [hU.cells _ (mul_lt_el hl e)]
      exact hv p c hp
    · rcases Nat.lt_or_gt_of_ne e with e2 | e2
      · exact h.dis i j k e2 hi hk
      · exact h.dis j i k e2 hk hi
structure Fil {α : Type} (E : Rp α) (w W : World) (L : List α) (g : Nat) (Sf : Nat → Nat → Prop) (k : Nat) : Prop where
  el : ∀ i x, i < k → L[i]? = some x → ∃ us, CellsAt W g (i * E.size) us ∧ E.ow W (Sf i) x us
  there : ∀ j, j < L.length * E.size → ∃ u, W.cell? ⟨g, j, none⟩ = some u
  soft : ∀ j, W.frozen? ⟨g, j, none⟩ = false
  sub : ∀ i q, Sf i q → g < q ∧ q < W.heap.size ∧ i < k
  dis : ∀ i j q, i < j → Sf i q → ¬ Sf j q
  base : w.heap.size ≤ g
  lt : g < W.heap.size
  below : Below g w W
theorem Fil.new {α : Type} {E : Rp α} {w : World} {L : List α} {cs : Array Value} {t : TypeId} (hs : cs.size = L.length * E.size) : Fil E w (w.alloc (.cells cs t)) L w.heap.size (fun _ _ => False) 0 :=
  ⟨fun i x h => absurd h (Nat.not_lt_zero _), fun j hj => ⟨cs[j]'(by omega), by simp [World.cell?_alloc_new, show j < cs.size by omega]⟩, fun j => by simp, fun i q h => h.elim, fun i j q _ h => h.elim, Nat.le_refl _, by simp, (Below.refl _ _).alloc (Nat.le_refl _) _⟩
theorem Fil.put {α : Type} {E : Rp α} (hE : Ok E) {w W W1 : World} {L : List α} {g k : Nat} {Sf : Nat → Nat → Prop} {x : α} {us : List Value} (h : Fil E w W L g Sf k) (hx : L[k]? = some x) (hb : Below W.heap.size W W1) (hr : E.ow W1 (Rg W.heap.size W1.heap.size) x us) :
    Fil E w (putCells W1 g (k * E.size) us) L g (fun i q => if i = k then Rg W.heap.size W1.heap.size q else Sf i q) (k + 1) := by
  have hk := (List.getElem?_eq_some_iff.1 hx).1
  have hlen := hE.ow_len hr
  have hsz := hb.size
  have hgl := h.lt
  have hmul : (k + 1) * E.size ≤ L.length * E.size := Nat.mul_le_mul_right _ (by omega)
  rw [Nat.add_mul, Nat.one_mul] at hmul
  have there1 : ∀ j, j < L.length * E.size → ∃ u, W1.cell? ⟨g, j, none⟩ = some u := fun j hj => by
    obtain ⟨u, hu⟩ := h.there j hj
    exact ⟨u, (hb.cell (p := ⟨g, j, none⟩) hgl).trans hu⟩
  have apart : ∀ q, Rg W.heap.size W1.heap.size q → q ≠ g := fun q hq => by unfold Rg at hq; omega
  refine ⟨fun i y hi hy => ?_, fun j hj => ?_, fun j => ?_, fun i q hq => ?_, fun i j q hij hi => ?_, h.base, by rw [putCells_size]; omega, ?_⟩
  · by_cases e : i = k
    · subst e
      rw [hx] at hy
      injection hy with hy
      subst hy
      refine ⟨us, putCells_cells g us W1 _ fun j hj => there1 _ (by rw [hlen] at hj; omega), ?_⟩
      simp only [if_true]
      exact hE.ow_keep hr fun q hq => putCells_block g (apart q hq) us W1 _
    · obtain ⟨vs, hv, hw⟩ := h.el i y (by omega) hy
      refine ⟨vs, fun p c hp => ?_, ?_⟩
      · have hl := (List.getElem?_eq_some_iff.1 hp).1
        rw [hE.ow_len hw] at hl
        have h1 := mul_lt_el (i := k) (j := i) hl (Ne.symm e)
        rw [Nat.add_mul, Nat.one_mul] at h1
        rw [putCells_other g us W1 _ (by omega)]
        exact (hb.cell (p := ⟨g, _, none⟩) hgl).trans (hv p c hp)
      · simp only [e, if_false]
        refine hE.ow_keep (hE.ow_keep hw fun q hq => hb.block q (h.sub i q hq).2.1) fun q hq => putCells_block g (by have := (h.sub i q hq).1; omega) us W1 _
  · obtain ⟨u, hu⟩ := there1 j hj
    by_cases hin : j < k * E.size ∨ k * E.size + us.length ≤ j
    · exact ⟨u, (putCells_other g us W1 _ hin).trans hu⟩
    · have hc := putCells_cells g us W1 (k * E.size) fun j hj => there1 _ (by rw [hlen] at hj; omega)
      have hj2 : j - k * E.size < us.length := by omega
      refine ⟨us[j - k * E.size], ?_⟩
      have := hc (j - k * E.size) _ (List.getElem?_eq_getElem hj2)
      rw [show k * E.size + (j - k * E.size) = j by omega] at this
      exact this
  · rw [putCells_frozen]
    exact (hb.frozen (p := ⟨g, j, none⟩) hgl).trans (h.soft j)
  · rw [putCells_size]
    by_cases e : i = k
    · simp only [e, if_true] at hq
      unfold Rg at hq
      omega
    · simp only [e, if_false] at hq
      have := h.sub i q hq
      omega
  · by_cases e1 : i = k
    · subst e1
      simp only [if_true] at hi
      have e2 : j ≠ i := by omega
      simp only [e2, if_false]
      intro hj
      have := (h.sub j q hj).2.2
      omega
    · simp only [e1, if_false] at hi
      by_cases e2 : j = k
      · simp only [e2, if_true]
        have := (h.sub i q hi).2.1
        unfold Rg
        omega
      · simp only [e2, if_false]
        exact h.dis i j q hij hi
  · exact (h.below.trans (hb.mono (by omega))).trans ((putCells_off g us W1 _).below (by omega) (fun k hk => by rw [hk]; exact Nat.le_refl _))
theorem Fil.done {α : Type} {E : Rp α} {w W : World} {L : List α} {g : Nat} {Sf : Nat → Nat → Prop} (h : Fil E w W L g Sf L.length) : Row E W (Rg w.heap.size W.heap.size) L g Sf :=
  ⟨⟨h.base, h.lt⟩, h.soft, fun i k hk => ⟨⟨by have := (h.sub i k hk).1; have := h.base; omega, (h.sub i k hk).2.1⟩, by have := (h.sub i k hk).1; omega⟩, h.dis, fun i x hx => h.el i x (List.getElem?_eq_some_iff.1 hx).1 hx⟩
end Go.Proofs.YtlgflddljhldhaaGreat.RepC
end
section
namespace Go.Proofs.YtlgflddljhldhaaGreat.RepC
open Go.RowKit RowC ValC
set_option linter.unusedVariables false
def Blk (w : World) (g : Nat) (t : TypeId) (cs : Array Value) : Prop := w.heap[g]? = some (.cells cs t (0, 0))
section
variable {w w' : World} {g : Nat} {t : TypeId} {cs : Array Value}
theorem Blk.lt (h : Blk w g t cs) : g < w.heap.size := (Array.getElem?_eq_some_iff.1 h).1
theorem Blk.at_ (h : Blk w g t cs) (i : Nat) {v : Value} (hv : cs[i]? = some v) : w.cell? ⟨g, i, none⟩ = some v := (cell_of_row w g i cs t (0, 0) h).trans hv
theorem Blk.soft (h : Blk w g t cs) (i : Nat) : w.frozen? ⟨g, i, none⟩ = false := by
  unfold Blk at h
  simp [World.frozen?, h]
theorem Blk.new (w : World) (t : TypeId) (cs : Array Value) : Blk (w.alloc (.cells cs t)) w.heap.size t cs := heap_alloc_new w _
theorem Blk.alloc (h : Blk w g t cs) (o : Obj) : Blk (w.alloc o) g t cs := (Below.heap_alloc w o g h.lt).trans h
theorem Blk.set (h : Blk w g t cs) (i : Nat) (u : Value) : Blk (w.setCell ⟨g, i, none⟩ u) g t (cs.setIfInBounds i u) := by
  unfold Blk at h ⊢
  simp [World.setCell, Array.getElem?_modify, h]
theorem Blk.far (h : Blk w g t cs) {b o : Nat} (hp : g ≠ b) (u : Value) : Blk (w.setCell ⟨b, o, none⟩ u) g t cs := (Below.heap_setCell w ⟨b, o, none⟩ u g hp).trans h
theorem Blk.call (h : Blk w g t cs) (hb : Below w.heap.size w w') : Blk w' g t cs := (hb.block g h.lt).trans h
end
theorem bdrewN {B : Nat} {w W : World} (h : Below B w W) (n : Nat) : Below B w (W.drewN n) := ⟨h.os, h.tape, h.output, h.size, h.block⟩
def szR (l : Int) (s : Nat) : Int := if (s : Int) ≤ l then l - s else -1
theorem szR_yes {l : Int} {s : Nat} (h : (s : Int) ≤ l) : szR l s = l - s := if_pos h
theorem szR_no {l : Int} {s : Nat} (h : ¬ (s : Int) ≤ l) : szR l s = -1 := if_neg h
def SzC (l : Int) (s : Nat) (w : World) (e : Ending) (w' : World) : Prop := e = .returned (.int .i64 (szR l s)) ∧ Below w.heap.size w w'
theorem szC_elim {l : Int} {s : Nat} {w : World} {e : Ending} {w' : World} (h : SzC l s w e w') : e = .returned (.int .i64 (szR l s)) ∧ Below w.heap.size w w' := h
theorem sumL_zero {α : Type} {f : α → Nat} (h : ∀ x, f x = 0) : ∀ L : List α, sumL f L = 0
  | [] => rfl
  | x :: xs => by simp only [sumL, h x, sumL_zero h xs]
theorem sumL_take {α : Type} (f : α → Nat) {L : List α} {k : Nat} {x : α} (h : L[k]? = some x) : sumL f (L.take (k + 1)) = sumL f (L.take k) + f x := by
  rw [List.take_add_one, h, Option.toList_some, sumL_app, sumL_one]
theorem sumL_take_le {α : Type} (f : α → Nat) (L : List α) (k : Nat) : sumL f (L.take k) ≤ sumL f L := by
  have := sumL_app f (L.take k) (L.drop k)
  rw [List.take_append_drop] at this
  omega
def NewV {α : Type} (E : Rp α) (d : α) (w : World) (e : Ending) (w' : World) : Prop := ∃ us : List Value, e = .returned (.agg us.toArray) ∧ E.ow w' (Rg w.heap.size w'.heap.size) d us ∧ Below w.heap.size w w'
theorem newV_elim {α : Type} {E : Rp α} {d : α} {w : World} {e : Ending} {w' : World} (h : NewV E d w e w') : ∃ us : List Value, e = .returned (.agg us.toArray) ∧ E.ow w' (Rg w.heap.size w'.heap.size) d us ∧ Below w.heap.size w w' := h
def NewS {α : Type} (E : Rp α) (L : List α) (w : World) (e : Ending) (w' : World) : Prop := ∃ a cap, e = .returned (.slice a L.length cap) ∧ OwSl E w' (Rg w.heap.size w'.heap.size) L a cap ∧ Below w.heap.size w w'
theorem newS_elim {α : Type} {E : Rp α} {L : List α} {w : World} {e : Ending} {w' : World} (h : NewS E L w e w') : ∃ a cap, e = .returned (.slice a L.length cap) ∧ OwSl E w' (Rg w.heap.size w'.heap.size) L a cap ∧ Below w.heap.size w w' := h
theorem Fil.news {α : Type} {E : Rp α} {w W : World} {L : List α} {Sf : Nat → Nat → Prop} (h : Fil E w W L w.heap.size Sf L.length) (hn : L.length ≤ maxLen) : NewS E L w (.returned (.slice (some ⟨w.heap.size, 0, none⟩) L.length L.length)) W :=
  ⟨_, _, rfl, h.done.slice (Nat.le_refl _) hn, h.below⟩
theorem keep_call {S : Nat → Prop} {w0 Wc w1 : World} (hb : Below Wc.heap.size Wc w1) (ho : Off S w0 Wc) (k : Nat) (hk : k < w0.heap.size) (hS : ¬ S k) : w1.heap[k]? = w0.heap[k]? :=
  (hb.block k (Nat.lt_of_lt_of_le hk ho.size)).trans (ho.block k hk hS)
theorem size_call {S : Nat → Prop} {w0 Wc w1 : World} (hb : Below Wc.heap.size Wc w1) (ho : Off S w0 Wc) : w0.heap.size ≤ w1.heap.size := Nat.le_trans ho.size hb.size
theorem rg_call {Wc w1 : World} {m : Nat} (_ : Below Wc.heap.size Wc w1) (hm : m ≤ Wc.heap.size) (k : Nat) (hk : Rg Wc.heap.size w1.heap.size k) : m ≤ k ∧ k < w1.heap.size := ⟨Nat.le_trans hm hk.1, hk.2⟩
theorem lo_of {S : Nat → Prop} {w0 Wc w1 : World} (_ : Below Wc.heap.size Wc w1) (ho : Off S w0 Wc) (k : Nat) (hk : Rg Wc.heap.size w1.heap.size k) : w0.heap.size ≤ k := Nat.le_trans ho.size hk.1
theorem el_some {α : Type} {L : List α} {k : Nat} (h : k < L.length) : ∃ x, L[k]? = some x := ⟨L[k], List.getElem?_eq_getElem h⟩
theorem sz_at {α : Type} {f : α → Nat} {L : List α} {k : Nat} {x : α} {m : Nat} (hx : L[k]? = some x) (h : L.length + sumL f L ≤ m) : f x ≤ m := by
  have key : ∀ (L : List α) (k : Nat), L[k]? = some x → f x ≤ sumL f L := by
    intro L
    induction L with
    | nil => intro k hk; simp at hk
    | cons y ys ih =>
      intro k hk
      cases k with
      | zero => simp at hk; subst hk; simp only [sumL]; omega
      | succ k => have := ih k (by simpa using hk); simp only [sumL]; omega
  have := key L k hx
  omega
theorem el_lt {α : Type} {L : List α} {k : Nat} {x : α} (h : L[k]? = some x) : k < L.length := (List.getElem?_eq_some_iff.1 h).1
end Go.Proofs.YtlgflddljhldhaaGreat.RepC
end
section
namespace Go.Proofs.YtlgflddljhldhaaGreat.RepC
open Go.RowKit RowC ValC
set_option linter.unusedVariables false
set_option linter.unusedSimpArgs false
theorem Blk.off {w w' : World} {g : Nat} {t : TypeId} {cs : Array Value} {S : Nat → Prop} (h : Blk w g t cs) (ho : Off S w w') (hg : g < w.heap.size) (hS : ¬ S g) : Blk w' g t cs := (ho.block g hg hS).trans h
end Go.Proofs.YtlgflddljhldhaaGreat.RepC
end
section
namespace Go.Proofs.YtlgflddljhldhaaGreat.RepC
open Go.RowKit RowC ValC
set_option linter.unusedVariables false
set_option linter.unusedSimpArgs false
abbrev D_Label : Type := (Int) × (Int)
def R_Label : Rp D_Label := (Pr I I)
theorem R_Label_ok : Ok R_Label := (Pr_ok I_ok I_ok)
theorem rd_Label {W : World} {B : Nat} {x0 : Int} {x1 : Int} {cs : List Value} (h : R_Label.rd W B (x0, x1) cs) : cs = [.int .i64 x0, .int .i64 x1] := by
  obtain ⟨u1, v1, rfl, h1, g1⟩ := h
  obtain rfl : u1 = [_] := h1
  obtain rfl : v1 = [_] := g1
  rfl
theorem mkrd_Label {W : World} {B : Nat} {x0 : Int} {x1 : Int}  : R_Label.rd W B (x0, x1) [.int .i64 x0, .int .i64 x1] := ⟨[.int .i64 x0], [.int .i64 x1], rfl, rfl, rfl⟩
theorem mkow_Label {W : World} {S : Nat → Prop} {x0 : Int} {x1 : Int}  : R_Label.ow W S (x0, x1) [.int .i64 x0, .int .i64 x1] := ⟨[.int .i64 x0], [.int .i64 x1], (fun _ => False), (fun _ => False), rfl, (fun k h => h.elim), (fun k h => h.elim), (fun k h h' => h.elim), rfl, rfl⟩
theorem ow0_Label {W : World} {S : Nat → Prop} {x0 : Int} {x1 : Int} {cs : List Value} (h : R_Label.ow W S (x0, x1) cs) : cs = [.int .i64 x0, .int .i64 x1] := by
  obtain ⟨u1, v1, A1, B1, rfl, sa1, sb1, dd1, h1, g1⟩ := h
  obtain rfl : u1 = [_] := h1
  obtain rfl : v1 = [_] := g1
  rfl
theorem size_Int64S : (I).size = 1 := rfl
def zs_Int64S (n : Nat) : Array Value := madeCells #[.int .i64 0] (n * 1)
theorem zs_Int64S_size (n : Nat) : (zs_Int64S n).size = n * (I).size := by unfold zs_Int64S; simp [madeCells, size_Int64S]
theorem make_Int64S (n : Nat) (hn : n ≤ 1048576) : ∀ W : World, (Instr.makeSlice 70 (.int .i64 (n : Int)) (.int .i64 (n : Int))).run Tryz.prog W = .ok (.slice (some ⟨W.heap.size, 0, none⟩) n n) (W.alloc (.cells (zs_Int64S n) 2)) := by
  intro W
  obtain ⟨i, hi, hz, hs, hb⟩ : ∃ i, Tryz.prog.info? 2 = some i ∧ i.zero = some (.int .i64 0) ∧ i.size = 1 ∧ i.bytes = 8 := by
    have h : (Tryz.prog.info? 2).map (fun i => (i.zero, i.size, i.bytes)) = some (some (.int .i64 0), 1, 8) := by kernel_rfl
    cases hx : Tryz.prog.info? 2 with
    | none => rw [hx] at h; simp at h
    | some i => rw [hx] at h; simp at h; exact ⟨i, rfl, h.1, h.2.1, h.2.2⟩
  have hr := run_make (P := Tryz.prog) W 70 2 i _ Tryz.underlying70 hi hz .i64 .i64 n n (by omega) (by omega) (by rw [hb]; omega) (by omega)
  rw [hs] at hr
  simp only [Int.toNat_natCast] at hr
  exact hr
set_option maxRecDepth 100000 in
set_option maxHeartbeats 3200000 in
theorem to_Int64S {L : List (Int)} {a : Option Addr} {cap : Nat} {W : World} (hsz : ((Sl I)).sz L ≤ 1048576) (h : RdSl I W W.heap.size L a cap) : Calls Tryz.prog 106 #[.slice a L.length cap] W (NewS I L W) := by
  have hn : L.length ≤ 1048576 := Nat.le_trans (Nat.le_add_right _ _) hsz
  have hmk := make_Int64S L.length hn
  have H := Lib.hid h
  have HSZ := Lib.hid hsz
  clear h hsz
  go_enter Tryz.func106, Tryz.ntmps106
  go_wp2
  go_loopw [4] (fun i wr => ∃ k : Nat, k ≤ L.length ∧ i = .int .i64 k ∧ ∃ Sf, Fil I W wr L W.heap.size Sf k) (fun i _ => L.length - (intOf i).toNat)
  case atStart => exact ⟨0, Nat.zero_le _, rfl, _, Fil.new (by exact zs_Int64S_size _)⟩
  case round =>
    obtain ⟨k, hk, rfl, Sf, hF⟩ := hrel
    have HF := Lib.hid hF
    by_cases hlt : k < L.length
    · obtain ⟨x, hx⟩ := el_some hlt
      have HX := Lib.hid hx
      obtain ⟨g, o, us, rfl, hg, hu, hr⟩ := (H.out.below I_ok hF.below).at_ hx
      obtain rfl : us = [_] := hr
      have e0 : wr.cell? ⟨g, o + k, none⟩ = some (.int .i64 x) := by simpa [size_Int64S, Nat.add_assoc] using hu 0 _ rfl
      have hi0 : (0 : Int) ≤ (k : Int) := Int.natCast_nonneg _
      have hi1 : (k : Int) < (L.length : Int) := by omega
      have HP := Lib.hid (HF.out.put I_ok (us := [.int .i64 x]) HX.out (Below.refl _ _) rfl)
      obtain ⟨t0, ht0⟩ := HF.out.there k (by rw [size_Int64S]; omega)
      have hs0 := HF.out.soft k
      clear hF hx hu hmk
      go_wp2
      go_roundw
      case rel => exact ⟨k + 1, by omega, by go_num, _, by simpa [putCells, size_Int64S] using HP.out⟩
      case measure => simp [intOf]; omega
    · obtain rfl : k = L.length := by omega
      have HR := Lib.hid (HF.out.news (by unfold maxLen; omega))
      clear hF hmk
      go_wp2
      go_ret
      exact HR.out
set_option maxRecDepth 100000 in
set_option maxHeartbeats 3200000 in
theorem to_Label {x0 : Int} {x1 : Int}  {W : World} (hsz : R_Label.sz (x0, x1) ≤ 1048576) : Calls Tryz.prog 13 #[.agg #[.int .i64 x0, .int .i64 x1]] W (NewV R_Label (x0, x1) W) := by
  have HSZ := Lib.hid hsz
  clear hsz
  go_enter Tryz.func13, Tryz.ntmps13
  go_wp2
  refine bodyPost_ret (v := .agg #[.int .i64 x0, .int .i64 x1]) (by simp [results, Tryz.results13, go_sem]) rfl ⟨[.int .i64 x0, .int .i64 x1], rfl, mkow_Label, (by repeat (first | exact Below.refl _ _ | refine Below.drew ?_ | refine Below.setCell ?_ (by first | omega | (simp; done) | (simp; omega)) _ | refine Below.alloc ?_ (by first | omega | (simp; done) | (simp; omega)) _))⟩
set_option maxRecDepth 100000 in
set_option maxHeartbeats 3200000 in
theorem eq_Label {x0 : Int} {x1 : Int}   {W : World} : Calls Tryz.prog 115 #[.agg #[.int .i64 x0, .int .i64 x1], .agg #[.int .i64 x0, .int .i64 x1]] W (IsB true W) := by
  have HB0 := Lib.hid (show Below W.heap.size W ((W.alloc (.cells #[.int .i64 x0, .int .i64 x1] 47)).alloc (.cells #[.int .i64 x0, .int .i64 x1] 47)) from ((Below.refl _ _).alloc (Nat.le_refl _) _).alloc (by simp) _)
  go_enter Tryz.func115, Tryz.ntmps115
  go_wp2
  all_goals
    go_ret
    exact ⟨rfl, HB0.out⟩
theorem sizeq_Int64S : (I).size = 1 := rfl
set_option maxRecDepth 100000 in
set_option maxHeartbeats 3200000 in
theorem eq_Int64S {L : List (Int)} {a a' : Option Addr} {cap cap' : Nat} {W : World} (h : RdSl I W W.heap.size L a cap) (h' : RdSl I W W.heap.size L a' cap') : Calls Tryz.prog 116 #[.slice a L.length cap, .slice a' L.length cap'] W (IsB true W) := by
  have hn : L.length ≤ 9223372036854775807 := by have h1 := h.1; have h2 := h.2.1; unfold maxLen at h2; omega
  have H := Lib.hid h
  have H' := Lib.hid h'
  clear h h'
  go_enter Tryz.func116, Tryz.ntmps116
  go_wp2
  go_loopw [5] (fun i wr => ∃ k : Nat, k ≤ L.length ∧ i = .int .i64 k ∧ Below W.heap.size W wr) (fun i _ => L.length - (intOf i).toNat)
  case atStart => exact ⟨0, Nat.zero_le _, rfl, Below.refl _ _⟩
  case round =>
    obtain ⟨k, hk, rfl, hB⟩ := hrel
    have HB := Lib.hid hB
    have hsz := hB.size
    by_cases hlt : k < L.length
    · obtain ⟨x, hx⟩ := el_some hlt
      have HX := Lib.hid hx
      obtain ⟨g, o, us, rfl, hg, hu, hr⟩ := (H.out.below I_ok hB).at_ hx
      obtain ⟨g', o', vs, rfl, hg', hu', hr'⟩ := (H'.out.below I_ok hB).at_ hx
      obtain rfl : us = [_] := hr
      obtain rfl : vs = [_] := hr'
      have e0 : wr.cell? ⟨g, o + k, none⟩ = some (.int .i64 x) := by simpa [sizeq_Int64S, Nat.add_assoc] using hu 0 _ rfl
      have d0 : wr.cell? ⟨g', o' + k, none⟩ = some (.int .i64 x) := by simpa [sizeq_Int64S, Nat.add_assoc] using hu' 0 _ rfl
      have hi0 : (0 : Int) ≤ (k : Int) := Int.natCast_nonneg _
      have hi1 : (k : Int) < (L.length : Int) := by omega
      have hgl : g < wr.heap.size := Nat.lt_of_lt_of_le hg hsz
      have hgl' : g' < wr.heap.size := Nat.lt_of_lt_of_le hg' hsz
      clear hB hx hu hu'
      go_wp2_with fail
      go_quiet (fail)
      all_goals
        go_wp2
        go_roundw
        case rel => exact ⟨k + 1, by omega, by go_num, by first | exact bdrewN HB.out _ | exact HB.out.drew | exact HB.out⟩
        case measure => simp [intOf]; omega
    · clear hB
      go_wp2
      go_ret
      exact ⟨rfl, HB.out⟩
theorem flat_Int64S (L : List (Int)) : (Sl I).sz L = L.length := by
  have : sumL (I).sz L = 0 := sumL_zero (fun _ => rfl) L
  simp only [Sl, this, Nat.add_zero]
set_option maxRecDepth 100000 in
theorem sz_Int64S {L : List (Int)} {a : Option Addr} {cap : Nat} {W : World} {l : Int} (h0 : 0 ≤ l) (h1 : l ≤ 1048576) (h : RdSl I W W.heap.size L a cap) : Calls Tryz.prog 100 #[.slice a L.length cap, .int .i64 l] W (SzC l ((Sl I).sz L) W) := by
  have hn : L.length ≤ 9223372036854775807 := by have h1 := h.1; have h2 := h.2.1; unfold maxLen at h2; omega
  rw [flat_Int64S]
  clear h
  by_cases hf : (L.length : Int) ≤ l
  · have HR := Lib.hid (szR_yes hf)
    go_enter Tryz.func100, Tryz.ntmps100
    go_wp2
    go_ret
    exact ⟨by first | (rw [HR.out]; done) | (rw [HR.out]; rfl), Below.refl _ _⟩
  · have HR := Lib.hid (szR_no hf)
    go_enter Tryz.func100, Tryz.ntmps100
    go_wp2
    go_ret
    exact ⟨by first | (rw [HR.out]; done) | (rw [HR.out]; rfl), Below.refl _ _⟩
end Go.Proofs.YtlgflddljhldhaaGreat.RepC
end
