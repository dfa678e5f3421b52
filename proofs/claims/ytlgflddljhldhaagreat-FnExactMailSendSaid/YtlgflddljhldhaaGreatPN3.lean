/- Of this claim's texts the part 3: Vals Rep Rep2 Rep3 Held. -/
import Derived.LoopTactic
import Derived.BigQuiet
import Derived.Deep.QuietTactic
import Derived.Deep.RegionWith
import Derived.Deep.RegionHeld3
import Derived.Deep.DeepCutAuto
import Derived.RegionTactic
import Derived.WalkSpells
import Derived.WalkLawsBesides
import Derived.IntWalk
import Derived.Lib.Hide
import Derived.Laws.MakeOwn
import Derived.Laws.Entries
import Derived.Test.YtlgflddljhldhaaGreatPN1
import Derived.Test.YtlgflddljhldhaaGreatPN2
section
namespace Go.Proofs.YtlgflddljhldhaaGreat.ValC
open Go.RowKit RowC
def Rg (lo hi k : Nat) : Prop := lo ≤ k ∧ k < hi
structure Off (S : Nat → Prop) (w w' : World) : Prop where
  os : w'.os = w.os
  tape : w'.tape = w.tape
  output : w'.output = w.output
  size : w.heap.size ≤ w'.heap.size
  block : ∀ k, k < w.heap.size → ¬ S k → w'.heap[k]? = w.heap[k]?
theorem Off.refl (S : Nat → Prop) (w : World) : Off S w w := ⟨rfl, rfl, rfl, Nat.le_refl _, fun _ _ _ => rfl⟩
theorem Off.trans {S : Nat → Prop} {a b c : World} (h : Off S a b) (k : Off S b c) : Off S a c :=
  ⟨k.os.trans h.os, k.tape.trans h.tape, k.output.trans h.output, Nat.le_trans h.size k.size, fun i hi hs => (k.block i (Nat.lt_of_lt_of_le hi h.size) hs).trans (h.block i hi hs)⟩
theorem Off.drew {S : Nat → Prop} {a w : World} (h : Off S a w) : Off S a w.drew := ⟨h.os, h.tape, h.output, h.size, h.block⟩
theorem Off.alloc {S : Nat → Prop} {a w : World} (h : Off S a w) (o : Obj) : Off S a (w.alloc o) := h.trans ⟨rfl, rfl, rfl, by simp, fun _ hk _ => Below.heap_alloc _ _ _ hk⟩
theorem Off.setCell {S : Nat → Prop} {a w : World} (h : Off S a w) {p : Addr} (hp : S p.block) (u : Value) : Off S a (w.setCell p u) :=
  h.trans ⟨rfl, rfl, rfl, by simp [World.setCell], fun _ _ hs => Below.heap_setCell _ _ _ _ (fun e => hs (e ▸ hp))⟩
theorem Off.of_below {S : Nat → Prop} {a w w' : World} (h : Off S a w) (k : Below w.heap.size w w') : Off S a w' := h.trans ⟨k.os, k.tape, k.output, k.size, fun i hi _ => k.block i hi⟩
theorem Off.below {S : Nat → Prop} {B : Nat} {w w' : World} (h : Off S w w') (hB : B ≤ w.heap.size) (hS : ∀ k, S k → B ≤ k) : Below B w w' :=
  ⟨h.os, h.tape, h.output, h.size, fun k hk => h.block k (by omega) (fun hs => by have := hS k hs; omega)⟩
theorem Off.more {S T : Nat → Prop} {w w' : World} (h : Off S w w') (hST : ∀ k, S k → T k) : Off T w w' := ⟨h.os, h.tape, h.output, h.size, fun k hk ht => h.block k hk (fun hs => ht (hST k hs))⟩
section
variable {W W' : World} {S T : Nat → Prop} {v : Value} {n size : Nat} {c d : Nat → Value}
end
def IsB (b : Bool) (w : World) (e : Ending) (w' : World) : Prop := e = .returned (.bool b) ∧ Below w.heap.size w w'
theorem isB_elim {b : Bool} {w : World} {e : Ending} {w' : World} (h : IsB b w e w') : e = .returned (.bool b) ∧ Below w.heap.size w w' := h
end Go.Proofs.YtlgflddljhldhaaGreat.ValC
end
section
namespace Go.Proofs.YtlgflddljhldhaaGreat.RepC
open Go.RowKit RowC ValC
def CellsAt (W : World) (g o : Nat) (cs : List Value) : Prop := ∀ j c, cs[j]? = some c → W.cell? ⟨g, o + j, none⟩ = some c
theorem CellsAt.keep {W W' : World} {g o : Nat} {cs : List Value} (h : CellsAt W g o cs) (hb : W'.heap[g]? = W.heap[g]?) : CellsAt W' g o cs := fun j c hc => (World.cell?_of_block (a := ⟨g, o + j, none⟩) hb).trans (h j c hc)
theorem CellsAt.app {W : World} {g o : Nat} {cs ds : List Value} : CellsAt W g o (cs ++ ds) ↔ CellsAt W g o cs ∧ CellsAt W g (o + cs.length) ds := by
  constructor
  · intro h
    refine ⟨fun j c hc => h j c ?_, fun j c hc => ?_⟩
    · have hj := (List.getElem?_eq_some_iff.1 hc).1
      rw [List.getElem?_append_left hj]; exact hc
    · have := h (cs.length + j) c (by rw [List.getElem?_append_right (by omega)]; simpa using hc)
      rw [Nat.add_assoc]
      exact this
  · rintro ⟨h1, h2⟩ j c hc
    by_cases hj : j < cs.length
    · rw [List.getElem?_append_left hj] at hc; exact h1 j c hc
    · rw [List.getElem?_append_right (by omega)] at hc
      have := h2 _ c hc
      rw [show o + cs.length + (j - cs.length) = o + j by omega] at this
      exact this
theorem CellsAt.cons {W : World} {g o : Nat} {c : Value} {ds : List Value} : CellsAt W g o (c :: ds) ↔ W.cell? ⟨g, o, none⟩ = some c ∧ CellsAt W g (o + 1) ds := by
  constructor
  · intro h
    refine ⟨h 0 c rfl, fun j d hd => ?_⟩
    have := h (j + 1) d (by simpa using hd)
    rw [show o + (j + 1) = o + 1 + j by omega] at this
    exact this
  · rintro ⟨h1, h2⟩ j d hd
    cases j with
    | zero => simp at hd; subst hd; exact h1
    | succ j =>
      have := h2 j d (by simpa using hd)
      rw [show o + 1 + j = o + (j + 1) by omega] at this
      exact this
theorem CellsAt.nil {W : World} {g o : Nat} : CellsAt W g o [] := fun j c hc => by simp at hc
structure Rp (α : Type) where
  size : Nat
  rd : World → Nat → α → List Value → Prop
  ow : World → (Nat → Prop) → α → List Value → Prop
  mm : α → Int → Int → Prop
  mv : α → Int → Int → Prop
  cm : α → Nat
  cv : α → Nat
  sz : α → Nat
structure Ok {α : Type} (E : Rp α) : Prop where
  rd_len : ∀ {W B d cs}, E.rd W B d cs → cs.length = E.size
  ow_len : ∀ {W S d cs}, E.ow W S d cs → cs.length = E.size
  rd_below : ∀ {W W' B d cs}, E.rd W B d cs → Below B W W' → E.rd W' B d cs
  rd_more : ∀ {W B B' d cs}, E.rd W B d cs → B ≤ B' → E.rd W B' d cs
  ow_keep : ∀ {W W'} {S : Nat → Prop} {d cs}, E.ow W S d cs → (∀ k, S k → W'.heap[k]? = W.heap[k]?) → E.ow W' S d cs
  ow_more : ∀ {W} {S T : Nat → Prop} {d cs}, E.ow W S d cs → (∀ k, S k → T k) → E.ow W T d cs
  ow_rd : ∀ {W} {S : Nat → Prop} {B d cs}, E.ow W S d cs → (∀ k, S k → k < B) → E.rd W B d cs
  one : ∀ {W B d cs}, E.rd W B d cs → ∀ u ∈ cs, u.oneCell' = true
def atom {α : Type} (f : α → Value) (mm : α → Int → Int → Prop) (sz : α → Nat) : Rp α := { size := 1, rd := fun _ _ d cs => cs = [f d], ow := fun _ _ d cs => cs = [f d], mm := mm, mv := fun _ k k' => k' = k, cm := fun _ => 1, cv := fun _ => 0, sz := sz }
theorem atom_ok {α : Type} (f : α → Value) (mm : α → Int → Int → Prop) (sz : α → Nat) (h1 : ∀ d, (f d).oneCell' = true) : Ok (atom f mm sz) where
  rd_len h := by rw [show _ = [f _] from h]; rfl
  ow_len h := by rw [show _ = [f _] from h]; rfl
  rd_below h _ := h
  rd_more h _ := h
  ow_keep h _ := h
  ow_more h _ := h
  ow_rd h _ := h
  one h u hu := by rw [show _ = [f _] from h] at hu; simp at hu; subst hu; exact h1 _
def I : Rp Int := atom (fun n => .int .i64 n) (fun d k k' => d = k ∧ k' = k + 1) (fun _ => 0)
theorem I_ok : Ok I := atom_ok _ _ _ fun _ => rfl
def Bo : Rp Bool := { atom (fun b => .bool b) (fun _ k k' => k' = k) (fun _ => 0) with cm := fun _ => 0 }
def Pr {α β : Type} (E : Rp α) (F : Rp β) : Rp (α × β) where
  size := E.size + F.size
  rd W B d cs := ∃ us vs, cs = us ++ vs ∧ E.rd W B d.1 us ∧ F.rd W B d.2 vs
  ow W S d cs := ∃ us vs, ∃ S1 S2 : Nat → Prop, cs = us ++ vs ∧ (∀ k, S1 k → S k) ∧ (∀ k, S2 k → S k) ∧ (∀ k, S1 k → ¬ S2 k) ∧ E.ow W S1 d.1 us ∧ F.ow W S2 d.2 vs
  mm d k k' := ∃ k1, E.mm d.1 k k1 ∧ F.mm d.2 k1 k'
  mv d k k' := ∃ k1, E.mv d.1 k k1 ∧ F.mv d.2 k1 k'
  cm d := E.cm d.1 + F.cm d.2
  cv d := E.cv d.1 + F.cv d.2
  sz d := E.sz d.1 + F.sz d.2
theorem Pr_ok {α β : Type} {E : Rp α} {F : Rp β} (hE : Ok E) (hF : Ok F) : Ok (Pr E F) where
  rd_len h := by obtain ⟨us, vs, rfl, h1, h2⟩ := h; rw [List.length_append, hE.rd_len h1, hF.rd_len h2]; rfl
  ow_len h := by obtain ⟨us, vs, _, _, rfl, _, _, _, h1, h2⟩ := h; rw [List.length_append, hE.ow_len h1, hF.ow_len h2]; rfl
  rd_below h hb := by obtain ⟨us, vs, rfl, h1, h2⟩ := h; exact ⟨us, vs, rfl, hE.rd_below h1 hb, hF.rd_below h2 hb⟩
  rd_more h hb := by obtain ⟨us, vs, rfl, h1, h2⟩ := h; exact ⟨us, vs, rfl, hE.rd_more h1 hb, hF.rd_more h2 hb⟩
  ow_keep h hb := by
    obtain ⟨us, vs, S1, S2, rfl, a, b, c, h1, h2⟩ := h
    exact ⟨us, vs, S1, S2, rfl, a, b, c, hE.ow_keep h1 (fun k hk => hb k (a k hk)), hF.ow_keep h2 (fun k hk => hb k (b k hk))⟩
  ow_more h hT := by
    obtain ⟨us, vs, S1, S2, rfl, a, b, c, h1, h2⟩ := h
    exact ⟨us, vs, S1, S2, rfl, fun k hk => hT k (a k hk), fun k hk => hT k (b k hk), c, h1, h2⟩
  ow_rd h hB := by
    obtain ⟨us, vs, S1, S2, rfl, a, b, c, h1, h2⟩ := h
    exact ⟨us, vs, rfl, hE.ow_rd h1 (fun k hk => hB k (a k hk)), hF.ow_rd h2 (fun k hk => hB k (b k hk))⟩
  one h u hu := by
    obtain ⟨us, vs, rfl, h1, h2⟩ := h
    rcases List.mem_append.1 hu with h | h
    · exact hE.one h1 u h
    · exact hF.one h2 u h
def RdSl {α : Type} (E : Rp α) (W : World) (B : Nat) (L : List α) (a : Option Addr) (cap : Nat) : Prop :=
  L.length ≤ cap ∧ cap ≤ maxLen ∧ (0 < L.length → ∃ g o, a = some ⟨g, o, none⟩ ∧ g < B ∧ ∀ i x, L[i]? = some x → ∃ us, CellsAt W g (o + i * E.size) us ∧ E.rd W B x us)
def OwSl {α : Type} (E : Rp α) (W : World) (S : Nat → Prop) (L : List α) (a : Option Addr) (cap : Nat) : Prop :=
  L.length ≤ cap ∧ cap ≤ maxLen ∧ (0 < L.length → ∃ g, ∃ Sf : Nat → Nat → Prop, a = some ⟨g, 0, none⟩ ∧ S g ∧ (∀ j, W.frozen? ⟨g, j, none⟩ = false) ∧ (∀ i k, Sf i k → S k ∧ k ≠ g) ∧ (∀ i j k, i < j → Sf i k → ¬ Sf j k) ∧
    ∀ i x, L[i]? = some x → ∃ us, CellsAt W g (i * E.size) us ∧ E.ow W (Sf i) x us)
def mmL {α : Type} (E : Rp α) : List α → Int → Int → Prop
  | [], k, k' => k' = k
  | x :: xs, k, k' => ∃ k1, E.mm x k k1 ∧ mmL E xs k1 k'
def sumL {α : Type} (f : α → Nat) : List α → Nat
  | [] => 0
  | x :: xs => f x + sumL f xs
def Sl {α : Type} (E : Rp α) : Rp (List α) where
  size := 1
  rd W B L cs := ∃ a cap, cs = [.slice a L.length cap] ∧ RdSl E W B L a cap
  ow W S L cs := ∃ a cap, cs = [.slice a L.length cap] ∧ OwSl E W S L a cap
  mm := mmL E
  mv := mmL E
  cm := sumL E.cm
  cv := sumL E.cm
  sz L := L.length + sumL E.sz L
theorem RdSl.below {α : Type} {E : Rp α} (hE : Ok E) {W W' : World} {B : Nat} {L : List α} {a : Option Addr} {cap : Nat} (h : RdSl E W B L a cap) (hb : Below B W W') : RdSl E W' B L a cap := by
  obtain ⟨h1, h2, h3⟩ := h
  refine ⟨h1, h2, fun hn => ?_⟩
  obtain ⟨g, o, ha, hg, hc⟩ := h3 hn
  refine ⟨g, o, ha, hg, fun i x hx => ?_⟩
  obtain ⟨us, hu, hr⟩ := hc i x hx
  exact ⟨us, hu.keep (hb.block g hg), hE.rd_below hr hb⟩
theorem RdSl.more {α : Type} {E : Rp α} (hE : Ok E) {W : World} {B B' : Nat} {L : List α} {a : Option Addr} {cap : Nat} (h : RdSl E W B L a cap) (hb : B ≤ B') : RdSl E W B' L a cap := by
  obtain ⟨h1, h2, h3⟩ := h
  refine ⟨h1, h2, fun hn => ?_⟩
  obtain ⟨g, o, ha, hg, hc⟩ := h3 hn
  refine ⟨g, o, ha, Nat.lt_of_lt_of_le hg hb, fun i x hx => ?_⟩
  obtain ⟨us, hu, hr⟩ := hc i x hx
  exact ⟨us, hu, hE.rd_more hr hb⟩
theorem OwSl.keep {α : Type} {E : Rp α} (hE : Ok E) {W W' : World} {S : Nat → Prop} {L : List α} {a : Option Addr} {cap : Nat} (h : OwSl E W S L a cap) (hb : ∀ k, S k → W'.heap[k]? = W.heap[k]?) : OwSl E W' S L a cap := by
  obtain ⟨h1, h2, h3⟩ := h
  refine ⟨h1, h2, fun hn => ?_⟩
  obtain ⟨g, Sf, ha, hg, hf, hs, hd, hc⟩ := h3 hn
  refine ⟨g, Sf, ha, hg, fun j => (World.frozen?_of_block (a := ⟨g, j, none⟩) (hb g hg)).trans (hf j), hs, hd, fun i x hx => ?_⟩
  obtain ⟨us, hu, hr⟩ := hc i x hx
  exact ⟨us, hu.keep (hb g hg), hE.ow_keep hr (fun k hk => hb k (hs i k hk).1)⟩
theorem OwSl.more {α : Type} {E : Rp α} {W : World} {S T : Nat → Prop} {L : List α} {a : Option Addr} {cap : Nat} (h : OwSl E W S L a cap) (hT : ∀ k, S k → T k) : OwSl E W T L a cap := by
  obtain ⟨h1, h2, h3⟩ := h
  refine ⟨h1, h2, fun hn => ?_⟩
  obtain ⟨g, Sf, ha, hg, hf, hs, hd, hc⟩ := h3 hn
  exact ⟨g, Sf, ha, hT g hg, hf, fun i k hk => ⟨hT k (hs i k hk).1, (hs i k hk).2⟩, hd, hc⟩
theorem OwSl.rd {α : Type} {E : Rp α} (hE : Ok E) {W : World} {S : Nat → Prop} {B : Nat} {L : List α} {a : Option Addr} {cap : Nat} (h : OwSl E W S L a cap) (hB : ∀ k, S k → k < B) : RdSl E W B L a cap := by
  obtain ⟨h1, h2, h3⟩ := h
  refine ⟨h1, h2, fun hn => ?_⟩
  obtain ⟨g, Sf, ha, hg, hf, hs, hd, hc⟩ := h3 hn
  refine ⟨g, 0, ha, hB g hg, fun i x hx => ?_⟩
  obtain ⟨us, hu, hr⟩ := hc i x hx
  exact ⟨us, by rw [Nat.zero_add]; exact hu, hE.ow_rd hr (fun k hk => hB k (hs i k hk).1)⟩
theorem Sl_ok {α : Type} {E : Rp α} (hE : Ok E) : Ok (Sl E) where
  rd_len h := by obtain ⟨a, cap, rfl, _⟩ := h; rfl
  ow_len h := by obtain ⟨a, cap, rfl, _⟩ := h; rfl
  rd_below h hb := by obtain ⟨a, cap, rfl, h⟩ := h; exact ⟨a, cap, rfl, h.below hE hb⟩
  rd_more h hb := by obtain ⟨a, cap, rfl, h⟩ := h; exact ⟨a, cap, rfl, h.more hE hb⟩
  ow_keep h hb := by obtain ⟨a, cap, rfl, h⟩ := h; exact ⟨a, cap, rfl, h.keep hE hb⟩
  ow_more h hT := by obtain ⟨a, cap, rfl, h⟩ := h; exact ⟨a, cap, rfl, h.more hT⟩
  ow_rd h hB := by obtain ⟨a, cap, rfl, h⟩ := h; exact ⟨a, cap, rfl, h.rd hE hB⟩
  one h u hu := by obtain ⟨a, cap, rfl, h⟩ := h; simp at hu; subst hu; rfl
theorem RdSl.at_ {α : Type} {E : Rp α} {W : World} {B : Nat} {L : List α} {a : Option Addr} {cap : Nat} (h : RdSl E W B L a cap) {i : Nat} {x : α} (hx : L[i]? = some x) :
    ∃ g o us, a = some ⟨g, o, none⟩ ∧ g < B ∧ CellsAt W g (o + i * E.size) us ∧ E.rd W B x us := by
  have hi := (List.getElem?_eq_some_iff.1 hx).1
  obtain ⟨g, o, ha, hg, hc⟩ := h.2.2 (by omega)
  obtain ⟨us, hu, hr⟩ := hc i x hx
  exact ⟨g, o, us, ha, hg, hu, hr⟩
theorem mmL_app {α : Type} {E : Rp α} : ∀ {L M : List α} {k k' k'' : Int}, mmL E L k k' → mmL E M k' k'' → mmL E (L ++ M) k k''
  | [], M, k, k', k'', h, h' => by simp only [mmL] at h; subst h; exact h'
  | x :: xs, M, k, k', k'', ⟨k1, h1, h2⟩, h' => ⟨k1, h1, mmL_app h2 h'⟩
theorem sumL_app {α : Type} (f : α → Nat) : ∀ (L M : List α), sumL f (L ++ M) = sumL f L + sumL f M
  | [], M => by simp [sumL]
  | x :: xs, M => by simp only [List.cons_append, sumL, sumL_app f xs M]; omega
theorem sumL_one {α : Type} (f : α → Nat) (x : α) : sumL f [x] = f x := by simp [sumL]
end Go.Proofs.YtlgflddljhldhaaGreat.RepC
end
section
namespace Go.Proofs.YtlgflddljhldhaaGreat.RepC
open Go.RowKit RowC ValC
def putCells (W : World) (g : Nat) : Nat → List Value → World
  | _, [] => W
  | o, c :: cs => putCells (W.setCell ⟨g, o, none⟩ c) g (o + 1) cs
theorem putCells_size (g : Nat) : ∀ (cs : List Value) (W : World) (o : Nat), (putCells W g o cs).heap.size = W.heap.size
  | [], _, _ => rfl
  | c :: cs, W, o => by simp only [putCells]; rw [putCells_size g cs]; simp [World.setCell]
theorem putCells_frozen (g : Nat) (p : Addr) : ∀ (cs : List Value) (W : World) (o : Nat), (putCells W g o cs).frozen? p = W.frozen? p
  | [], _, _ => rfl
  | c :: cs, W, o => by simp only [putCells]; rw [putCells_frozen g p cs]; simp
theorem putCells_block (g : Nat) {k : Nat} (hk : k ≠ g) : ∀ (cs : List Value) (W : World) (o : Nat), (putCells W g o cs).heap[k]? = W.heap[k]?
  | [], _, _ => rfl
  | c :: cs, W, o => by simp only [putCells]; rw [putCells_block g hk cs]; exact Below.heap_setCell _ _ _ _ hk
theorem putCells_off (g : Nat) : ∀ (cs : List Value) (W : World) (o : Nat), Off (fun x => x = g) W (putCells W g o cs)
  | [], W, _ => Off.refl _ _
  | c :: cs, W, o => by simp only [putCells]; exact (Off.setCell (S := fun x => x = g) (p := ⟨g, o, none⟩) (Off.refl _ W) rfl c).trans (putCells_off g cs _ _)
theorem putCells_other (g : Nat) {j : Nat} : ∀ (cs : List Value) (W : World) (o : Nat), (j < o ∨ o + cs.length ≤ j) → (putCells W g o cs).cell? ⟨g, j, none⟩ = W.cell? ⟨g, j, none⟩
  | [], _, _, _ => rfl
  | c :: cs, W, o, h => by
    simp only [List.length_cons] at h
    simp only [putCells]
    rw [putCells_other g cs _ _ (by omega), World.cell?_setCell_other _ _ _ _ (fun e => by injection e with _ e2; omega)]
theorem putCells_cells (g : Nat) : ∀ (cs : List Value) (W : World) (o : Nat), (∀ j, j < cs.length → ∃ u, W.cell? ⟨g, o + j, none⟩ = some u) → CellsAt (putCells W g o cs) g o cs
  | [], _, _, _ => CellsAt.nil
  | c :: cs, W, o, h => by
    simp only [putCells]
    refine CellsAt.cons.2 ⟨?_, putCells_cells g cs _ _ fun j hj => ?_⟩
    · obtain ⟨u, hu⟩ := h 0 (by simp)
      rw [putCells_other g cs _ _ (by omega)]
      exact World.cell?_setCell_same' _ _ _ (by rw [show W.cell? ⟨g, o, none⟩ = _ from hu]; rfl)
    · obtain ⟨u, hu⟩ := h (j + 1) (by simp only [List.length_cons]; omega)
      rw [World.cell?_setCell_other _ _ _ _ (fun e => by injection e with _ e2; omega), show o + 1 + j = o + (j + 1) by omega]
      exact ⟨u, hu⟩
structure Upd (W W' : World) (g lo hi : Nat) (T : Nat → Prop) : Prop where
  size : W.heap.size ≤ W'.heap.size
  block : ∀ k, k < W.heap.size → k ≠ g → ¬ T k → W'.heap[k]? = W.heap[k]?
  cells : ∀ j, (j < lo ∨ hi ≤ j) → W'.cell? ⟨g, j, none⟩ = W.cell? ⟨g, j, none⟩
  soft : ∀ j, W'.frozen? ⟨g, j, none⟩ = W.frozen? ⟨g, j, none⟩
theorem Upd.refl (W : World) (g lo hi : Nat) (T : Nat → Prop) : Upd W W g lo hi T := ⟨Nat.le_refl _, fun _ _ _ _ => rfl, fun _ _ => rfl, fun _ => rfl⟩
theorem Upd.trans {W W' W'' : World} {g lo hi : Nat} {T : Nat → Prop} (h : Upd W W' g lo hi T) (k : Upd W' W'' g lo hi T) : Upd W W'' g lo hi T :=
  ⟨Nat.le_trans h.size k.size, fun i h1 h2 h3 => (k.block i (Nat.lt_of_lt_of_le h1 h.size) h2 h3).trans (h.block i h1 h2 h3), fun j hj => (k.cells j hj).trans (h.cells j hj), fun j => (k.soft j).trans (h.soft j)⟩
theorem Upd.set (W : World) {g lo hi o : Nat} (T : Nat → Prop) (h : lo ≤ o ∧ o < hi) (u : Value) : Upd W (W.setCell ⟨g, o, none⟩ u) g lo hi T :=
  ⟨by simp [World.setCell], fun k _ hk _ => Below.heap_setCell _ _ _ _ hk, fun j hj => World.cell?_setCell_other _ _ _ _ (fun e => by injection e with _ e2; omega), fun j => by simp⟩
theorem Upd.put (W : World) {g lo hi o : Nat} (T : Nat → Prop) {cs : List Value} (h : lo ≤ o ∧ o + cs.length ≤ hi) : Upd W (putCells W g o cs) g lo hi T :=
  ⟨by rw [putCells_size]; exact Nat.le_refl _, fun k _ hk _ => putCells_block g hk cs W o, fun j hj => putCells_other g cs W o (by omega), fun j => putCells_frozen g _ cs W o⟩
theorem Upd.below {W W' : World} {g lo hi : Nat} {T : Nat → Prop} (h : Below W.heap.size W W') (hg : g < W.heap.size) : Upd W W' g lo hi T :=
  ⟨h.size, fun k hk _ _ => h.block k hk, fun j _ => h.cell (p := ⟨g, j, none⟩) hg, fun j => h.frozen (p := ⟨g, j, none⟩) hg⟩
theorem Upd.off {W W' : World} {g lo hi : Nat} {T : Nat → Prop} (h : Off T W W') (hg : g < W.heap.size) (hT : ¬ T g) : Upd W W' g lo hi T :=
  ⟨h.size, fun k hk _ ht => h.block k hk ht, fun j _ => World.cell?_of_block (a := ⟨g, j, none⟩) (h.block g hg hT), fun j => World.frozen?_of_block (a := ⟨g, j, none⟩) (h.block g hg hT)⟩
structure Row {α : Type} (E : Rp α) (W : World) (S : Nat → Prop) (L : List α) (g : Nat) (Sf : Nat → Nat → Prop) : Prop where
  own : S g
  soft : ∀ j, W.frozen? ⟨g, j, none⟩ = false
  sub : ∀ i k, Sf i k → S k ∧ k ≠ g
  dis : ∀ i j k, i < j → Sf i k → ¬ Sf j k
  el : ∀ i x, L[i]? = some x → ∃ us, CellsAt W g (i * E.size) us ∧ E.ow W (Sf i) x us
theorem OwSl.row {α : Type} {E : Rp α} {W : World} {S : Nat → Prop} {L : List α} {a : Option Addr} {cap : Nat} (h : OwSl E W S L a cap) (hn : 0 < L.length) : ∃ g Sf, a = some ⟨g, 0, none⟩ ∧ Row E W S L g Sf := by
  obtain ⟨g, Sf, ha, hg, hf, hs, hd, hc⟩ := h.2.2 hn
  exact ⟨g, Sf, ha, hg, hf, hs, hd, hc⟩
theorem Row.slice {α : Type} {E : Rp α} {W : World} {S : Nat → Prop} {L : List α} {g : Nat} {Sf : Nat → Nat → Prop} (h : Row E W S L g Sf) {cap : Nat} (h1 : L.length ≤ cap) (h2 : cap ≤ maxLen) : OwSl E W S L (some ⟨g, 0, none⟩) cap :=
  ⟨h1, h2, fun _ => ⟨g, Sf, rfl, h.own, h.soft, h.sub, h.dis, h.el⟩⟩
theorem mul_lt_el {i j p s : Nat} (hp : p < s) (hij : i ≠ j) : j * s + p < i * s ∨ (i + 1) * s ≤ j * s + p := by
  rcases Nat.lt_or_gt_of_ne hij with h | h
  · right
    have := Nat.mul_le_mul_right s (show i + 1 ≤ j by omega)
    omega
  · left
    have := Nat.mul_le_mul_right s (show j + 1 ≤ i by omega)
    rw [Nat.add_mul] at this
    omega
theorem Row.set {α : Type} {E : Rp α} (hE : Ok E) {W W' : World} {S : Nat → Prop} {L : List α} {g i : Nat} {Sf : Nat → Nat → Prop} {x : α} {us : List Value} (h : Row E W S L g Sf) (hS : ∀ k, S k → k < W.heap.size) (hU : Upd W W' g (i * E.size) ((i + 1) * E.size) (Sf i))
    (hc : CellsAt W' g (i * E.size) us) (hr : E.ow W' (Sf i) x us) : Row E W' S (L.set i x) g Sf := by
  refine ⟨h.own, fun j => (hU.soft j).trans (h.soft j), h.sub, h.dis, fun j y hy => ?_⟩
  by_cases e : i = j
  · subst e
    rw [List.getElem?_set] at hy
    split at hy
    · split at hy
      · injection hy with hy
        subst hy
        exact ⟨us, hc, hr⟩
      · cases hy
    · exact absurd rfl ‹_›
  · rw [List.getElem?_set_ne e] at hy
    obtain ⟨vs, hv, hw⟩ := h.el j y hy
    refine ⟨vs, fun p c hp => ?_, hE.ow_keep hw fun k hk => hU.block k (hS k (h.sub j k hk).1) (h.sub j k hk).2 (fun hi => ?_)⟩
    · have hl := (List.getElem?_eq_some_iff.1 hp).1
      rw [hE.ow_len hw] at hl
      rw [hU.cells _ (mul_lt_el hl e)]
      exact hv p c hp
    · rcases Nat.lt_or_gt_of_ne e with e2 | e2
      · exact h.dis i j k e2 hi hk
      · exact h.dis j i k e2 hk hi
structure Fil {α : Type} (E : Rp α) (w W : World) (L : List α) (g : Nat) (Sf : Nat → Nat → Prop) (k : Nat) : Prop where
  el : ∀ i x, i < k → L[i]? = some x → ∃ us, CellsAt W g (i * E.size) us ∧ E.ow W (Sf i) x us
  there : ∀ j, j < L.length * E.size → ∃ u, W.cell? ⟨g, j, none⟩ = some u
  soft : ∀ j, W.frozen? ⟨g, j, none⟩ = false
  sub : ∀ i q, Sf i q → g < q ∧ q < W.heap.size ∧ i < k
  dis : ∀ i j q, i < j → Sf i q → ¬ Sf j q
  base : w.heap.size ≤ g
  lt : g < W.heap.size
  below : Below g w W
theorem Fil.new {α : Type} {E : Rp α} {w : World} {L : List α} {cs : Array Value} {t : TypeId} (hs : cs.size = L.length * E.size) : Fil E w (w.alloc (.cells cs t)) L w.heap.size (fun _ _ => False) 0 :=
  ⟨fun i x h => absurd h (Nat.not_lt_zero _), fun j hj => ⟨cs[j]'(by omega), by simp [World.cell?_alloc_new, show j < cs.size by omega]⟩, fun j => by simp, fun i q h => h.elim, fun i j q _ h => h.elim, Nat.le_refl _, by simp, (Below.refl _ _).alloc (Nat.le_refl _) _⟩
theorem Fil.put {α : Type} {E : Rp α} (hE : Ok E) {w W W1 : World} {L : List α} {g k : Nat} {Sf : Nat → Nat → Prop} {x : α} {us : List Value} (h : Fil E w W L g Sf k) (hx : L[k]? = some x) (hb : Below W.heap.size W W1) (hr : E.ow W1 (Rg W.heap.size W1.heap.size) x us) :
    Fil E w (putCells W1 g (k * E.size) us) L g (fun i q => if i = k then Rg W.heap.size W1.heap.size q else Sf i q) (k + 1) := by
  have hk := (List.getElem?_eq_some_iff.1 hx).1
  have hlen := hE.ow_len hr
  have hsz := hb.size
  have hgl := h.lt
  have hmul : (k + 1) * E.size ≤ L.length * E.size := Nat.mul_le_mul_right _ (by omega)
  rw [Nat.add_mul, Nat.one_mul] at hmul
  have there1 : ∀ j, j < L.length * E.size → ∃ u, W1.cell? ⟨g, j, none⟩ = some u := fun j hj => by
    obtain ⟨u, hu⟩ := h.there j hj
    exact ⟨u, (hb.cell (p := ⟨g, j, none⟩) hgl).trans hu⟩
  have apart : ∀ q, Rg W.heap.size W1.heap.size q → q ≠ g := fun q hq => by unfold Rg at hq; omega
  refine ⟨fun i y hi hy => ?_, fun j hj => ?_, fun j => ?_, fun i q hq => ?_, fun i j q hij hi => ?_, h.base, by rw [putCells_size]; omega, ?_⟩
  · by_cases e : i = k
    · subst e
      rw [hx] at hy
      injection hy with hy
      subst hy
      refine ⟨us, putCells_cells g us W1 _ fun j hj => there1 _ (by rw [hlen] at hj; omega), ?_⟩
      simp only [if_true]
      exact hE.ow_keep hr fun q hq => putCells_block g (apart q hq) us W1 _
    · obtain ⟨vs, hv, hw⟩ := h.el i y (by omega) hy
      refine ⟨vs, fun p c hp => ?_, ?_⟩
      · have hl := (List.getElem?_eq_some_iff.1 hp).1
        rw [hE.ow_len hw] at hl
        have h1 := mul_lt_el (i := k) (j := i) hl (Ne.symm e)
        rw [Nat.add_mul, Nat.one_mul] at h1
        rw [putCells_other g us W1 _ (by omega)]
        exact (hb.cell (p := ⟨g, _, none⟩) hgl).trans (hv p c hp)
      · simp only [e, if_false]
        refine hE.ow_keep (hE.ow_keep hw fun q hq => hb.block q (h.sub i q hq).2.1) fun q hq => putCells_block g (by have := (h.sub i q hq).1; omega) us W1 _
  · obtain ⟨u, hu⟩ := there1 j hj
    by_cases hin : j < k * E.size ∨ k * E.size + us.length ≤ j
    · exact ⟨u, (putCells_other g us W1 _ hin).trans hu⟩
    · have hc := putCells_cells g us W1 (k * E.size) fun j hj => there1 _ (by rw [hlen] at hj; omega)
      have hj2 : j - k * E.size < us.length := by omega
      refine ⟨us[j - k * E.size], ?_⟩
      have := hc (j - k * E.size) _ (List.getElem?_eq_getElem hj2)
      rw [show k * E.size + (j - k * E.size) = j by omega] at this
      exact this
  · rw [putCells_frozen]
    exact (hb.frozen (p := ⟨g, j, none⟩) hgl).trans (h.soft j)
  · rw [putCells_size]
    by_cases e : i = k
    · simp only [e, if_true] at hq
      unfold Rg at hq
      omega
    · simp only [e, if_false] at hq
      have := h.sub i q hq
      omega
  · by_cases e1 : i = k
    · subst e1
      simp only [if_true] at hi
      have e2 : j ≠ i := by omega
      simp only [e2, if_false]
      intro hj
      have := (h.sub j q hj).2.2
      omega
    · simp only [e1, if_false] at hi
      by_cases e2 : j = k
      · simp only [e2, if_true]
        have := (h.sub i q hi).2.1
        unfold Rg
        omega
      · simp only [e2, if_false]
        exact h.dis i j q hij hi
  · exact (h.below.trans (hb.mono (by omega))).trans ((putCells_off g us W1 _).below (by omega) (fun k hk => by rw [hk]; exact Nat.le_refl _))
theorem Fil.done {α : Type} {E : Rp α} {w W : World} {L : List α} {g : Nat} {Sf : Nat → Nat → Prop} (h : Fil E w W L g Sf L.length) : Row E W (Rg w.heap.size W.heap.size) L g Sf :=
  ⟨⟨h.base, h.lt⟩, h.soft, fun i k hk => ⟨⟨by have := (h.sub i k hk).1; have := h.base; omega, (h.sub i k hk).2.1⟩, by have := (h.sub i k hk).1; omega⟩, h.dis, fun i x hx => h.el i x (List.getElem?_eq_some_iff.1 hx).1 hx⟩
end Go.Proofs.YtlgflddljhldhaaGreat.RepC
end
section
namespace Go.Proofs.YtlgflddljhldhaaGreat.RepC
open Go.RowKit RowC ValC
set_option linter.unusedVariables false
def Blk (w : World) (g : Nat) (t : TypeId) (cs : Array Value) : Prop := w.heap[g]? = some (.cells cs t (0, 0))
section
variable {w w' : World} {g : Nat} {t : TypeId} {cs : Array Value}
theorem Blk.lt (h : Blk w g t cs) : g < w.heap.size := (Array.getElem?_eq_some_iff.1 h).1
theorem Blk.at_ (h : Blk w g t cs) (i : Nat) {v : Value} (hv : cs[i]? = some v) : w.cell? ⟨g, i, none⟩ = some v := (cell_of_row w g i cs t (0, 0) h).trans hv
theorem Blk.soft (h : Blk w g t cs) (i : Nat) : w.frozen? ⟨g, i, none⟩ = false := by
  unfold Blk at h
  simp [World.frozen?, h]
theorem Blk.new (w : World) (t : TypeId) (cs : Array Value) : Blk (w.alloc (.cells cs t)) w.heap.size t cs := heap_alloc_new w _
theorem Blk.alloc (h : Blk w g t cs) (o : Obj) : Blk (w.alloc o) g t cs := (Below.heap_alloc w o g h.lt).trans h
theorem Blk.set (h : Blk w g t cs) (i : Nat) (u : Value) : Blk (w.setCell ⟨g, i, none⟩ u) g t (cs.setIfInBounds i u) := by
  unfold Blk at h ⊢
  simp [World.setCell, Array.getElem?_modify, h]
theorem Blk.far (h : Blk w g t cs) {b o : Nat} (hp : g ≠ b) (u : Value) : Blk (w.setCell ⟨b, o, none⟩ u) g t cs := (Below.heap_setCell w ⟨b, o, none⟩ u g hp).trans h
theorem Blk.call (h : Blk w g t cs) (hb : Below w.heap.size w w') : Blk w' g t cs := (hb.block g h.lt).trans h
theorem Blk.as (h : Blk w g t cs) {ds : Array Value} (e : cs = ds) : Blk w g t ds := e ▸ h
end
theorem bdrewN {B : Nat} {w W : World} (h : Below B w W) (n : Nat) : Below B w (W.drewN n) := ⟨h.os, h.tape, h.output, h.size, h.block⟩
def szR (l : Int) (s : Nat) : Int := if (s : Int) ≤ l then l - s else -1
theorem szR_yes {l : Int} {s : Nat} (h : (s : Int) ≤ l) : szR l s = l - s := if_pos h
theorem szR_no {l : Int} {s : Nat} (h : ¬ (s : Int) ≤ l) : szR l s = -1 := if_neg h
def SzC (l : Int) (s : Nat) (w : World) (e : Ending) (w' : World) : Prop := e = .returned (.int .i64 (szR l s)) ∧ Below w.heap.size w w'
theorem szC_elim {l : Int} {s : Nat} {w : World} {e : Ending} {w' : World} (h : SzC l s w e w') : e = .returned (.int .i64 (szR l s)) ∧ Below w.heap.size w w' := h
theorem sumL_zero {α : Type} {f : α → Nat} (h : ∀ x, f x = 0) : ∀ L : List α, sumL f L = 0
  | [] => rfl
  | x :: xs => by simp only [sumL, h x, sumL_zero h xs]
theorem sumL_take {α : Type} (f : α → Nat) {L : List α} {k : Nat} {x : α} (h : L[k]? = some x) : sumL f (L.take (k + 1)) = sumL f (L.take k) + f x := by
  rw [List.take_add_one, h, Option.toList_some, sumL_app, sumL_one]
theorem sumL_take_le {α : Type} (f : α → Nat) (L : List α) (k : Nat) : sumL f (L.take k) ≤ sumL f L := by
  have := sumL_app f (L.take k) (L.drop k)
  rw [List.take_append_drop] at this
  omega
def Mn {α : Type} (E : Rp α) : Prop := ∀ x k k', E.mm x k k' → k ≤ k'
theorem I_mn : Mn I := fun x k k' h => by have := h.2; omega
theorem Pr_mn {α β : Type} {E : Rp α} {F : Rp β} (hE : Mn E) (hF : Mn F) : Mn (Pr E F) := fun x k k' ⟨k1, h1, h2⟩ => Int.le_trans (hE _ _ _ h1) (hF _ _ _ h2)
theorem mmL_le {α : Type} {E : Rp α} (hE : Mn E) : ∀ {L : List α} {k k' : Int}, mmL E L k k' → k ≤ k'
  | [], k, k', h => by simp only [mmL] at h; omega
  | x :: xs, k, k', ⟨k1, h1, h2⟩ => Int.le_trans (hE _ _ _ h1) (mmL_le hE h2)
theorem Sl_mn {α : Type} {E : Rp α} (hE : Mn E) : Mn (Sl E) := fun _ _ _ h => mmL_le hE h
theorem cast_mm {α : Type} {E : Rp α} {L : List α} {a a' b b' : Int} (h : mmL E L a b) (h1 : a = a') (h2 : b = b') : mmL E L a' b' := by subst h1 h2; exact h
theorem mmL_drop {α : Type} {E : Rp α} {L : List α} {j : Nat} {x : α} {k k' : Int} (hx : L[j]? = some x) (h : mmL E (L.drop j) k k') : ∃ k1, E.mm x k k1 ∧ mmL E (L.drop (j + 1)) k1 k' := by
  have hj := (List.getElem?_eq_some_iff.1 hx)
  obtain ⟨hlt, he⟩ := hj
  rw [List.drop_eq_getElem_cons hlt, he] at h
  exact h
theorem mmL_end {α : Type} {E : Rp α} {L : List α} {k k' : Int} (h : mmL E (L.drop L.length) k k') : k' = k := by rw [List.drop_length] at h; exact h
theorem mmL_take {α : Type} {E : Rp α} {M : List α} {j : Nat} {x : α} {k q q' : Int} (hj : j < M.length) (h : mmL E (M.take j) k q) (hx : E.mm x q q') : mmL E ((M.set j x).take (j + 1)) k q' := by
  have e : (M.set j x).take (j + 1) = M.take j ++ [x] := by
    rw [List.take_add_one, List.take_set_of_le (Nat.le_refl _), List.getElem?_set_self hj]
    rfl
  rw [e]
  exact mmL_app h ⟨q', hx, rfl⟩
def MarkR {α : Type} (E : Rp α) (S : Nat → Prop) (L : List α) (a : Option Addr) (cap : Nat) (k : Int) (w : World) (e : Ending) (w' : World) : Prop :=
  ∃ L' k', e = .returned (.int .i64 k') ∧ L'.length = L.length ∧ mmL E L' k k' ∧ k' = k + (sumL E.cm L : Nat) ∧ OwSl E w' S L' a cap ∧ Off S w w'
theorem markR_elim {α : Type} {E : Rp α} {S : Nat → Prop} {L : List α} {a : Option Addr} {cap : Nat} {k : Int} {w : World} {e : Ending} {w' : World} (h : MarkR E S L a cap k w e w') :
  ∃ L' k', e = .returned (.int .i64 k') ∧ L'.length = L.length ∧ mmL E L' k k' ∧ k' = k + (sumL E.cm L : Nat) ∧ OwSl E w' S L' a cap ∧ Off S w w' := h
structure Mkd {α : Type} (E : Rp α) (W wr : World) (S : Nat → Prop) (L : List α) (g : Nat) (Sf : Nat → Nat → Prop) (k q : Int) (j : Nat) (M : List α) : Prop where
  len : M.length = L.length
  rest : ∀ p, j ≤ p → M[p]? = L[p]?
  mm : mmL E (M.take j) k q
  num : q = k + (sumL E.cm (L.take j) : Nat)
  row : Row E wr S M g Sf
  off : Off S W wr
theorem Mkd.start {α : Type} {E : Rp α} {W : World} {S : Nat → Prop} {L : List α} {g : Nat} {Sf : Nat → Nat → Prop} {k : Int} (h : Row E W S L g Sf) : Mkd E W W S L g Sf k k 0 L := ⟨rfl, fun _ _ => rfl, rfl, by simp [sumL], h, Off.refl _ _⟩
theorem Mkd.done {α : Type} {E : Rp α} {W wr : World} {S : Nat → Prop} {L M : List α} {g cap : Nat} {Sf : Nat → Nat → Prop} {k q : Int} (h : Mkd E W wr S L g Sf k q L.length M) (h1 : L.length ≤ cap) (h2 : cap ≤ maxLen) : MarkR E S L (some ⟨g, 0, none⟩) cap k W (.returned (.int .i64 q)) wr := by
  refine ⟨M, q, rfl, h.len, ?_, ?_, h.row.slice (by rw [h.len]; exact h1) h2, h.off⟩
  · have := h.mm
    rw [← h.len, List.take_length] at this
    exact this
  · have := h.num
    rw [List.take_length] at this
    exact this
theorem Mkd.step {α : Type} {E : Rp α} (hE : Ok E) {W wr w' : World} {S : Nat → Prop} {L M : List α} {g j : Nat} {Sf : Nat → Nat → Prop} {k q q' : Int} {x y : α} {us : List Value} (h : Mkd E W wr S L g Sf k q j M) (hS : ∀ i, S i → i < wr.heap.size) (hx : L[j]? = some x)
    (hU : Upd wr w' g (j * E.size) ((j + 1) * E.size) (Sf j)) (hO : Off S wr w') (hc : CellsAt w' g (j * E.size) us) (hr : E.ow w' (Sf j) y us) (hm : E.mm y q q') (hn : q' = q + (E.cm x : Nat)) : Mkd E W w' S L g Sf k q' (j + 1) (M.set j y) := by
  have hj : j < M.length := by rw [h.len]; exact (List.getElem?_eq_some_iff.1 hx).1
  refine ⟨by rw [List.length_set]; exact h.len, fun p hp => ?_, mmL_take hj h.mm hm, ?_, h.row.set hE hS hU hc hr, h.off.trans hO⟩
  · rw [List.getElem?_set_ne (by omega)]
    exact h.rest p (by omega)
  · rw [hn, h.num, sumL_take E.cm hx]
    omega
theorem Mkd.el {α : Type} {E : Rp α} {W wr : World} {S : Nat → Prop} {L M : List α} {g j : Nat} {Sf : Nat → Nat → Prop} {k q : Int} {x : α} (h : Mkd E W wr S L g Sf k q j M) (hx : L[j]? = some x) : ∃ us, CellsAt wr g (j * E.size) us ∧ E.ow wr (Sf j) x us :=
  h.row.el j x (by rw [h.rest j (Nat.le_refl _)]; exact hx)
theorem MarkR.none_ {α : Type} {E : Rp α} {W : World} {S : Nat → Prop} {L : List α} {a : Option Addr} {cap : Nat} {k : Int} (h : OwSl E W S L a cap) (h0 : L.length = 0) : MarkR E S L a cap k W (.returned (.int .i64 k)) W := by
  obtain rfl := List.eq_nil_of_length_eq_zero h0
  exact ⟨[], k, rfl, rfl, rfl, by simp [sumL], h, Off.refl _ _⟩
def NewV {α : Type} (E : Rp α) (d : α) (w : World) (e : Ending) (w' : World) : Prop := ∃ us : List Value, e = .returned (.agg us.toArray) ∧ E.ow w' (Rg w.heap.size w'.heap.size) d us ∧ Below w.heap.size w w'
theorem newV_elim {α : Type} {E : Rp α} {d : α} {w : World} {e : Ending} {w' : World} (h : NewV E d w e w') : ∃ us : List Value, e = .returned (.agg us.toArray) ∧ E.ow w' (Rg w.heap.size w'.heap.size) d us ∧ Below w.heap.size w w' := h
def NewS {α : Type} (E : Rp α) (L : List α) (w : World) (e : Ending) (w' : World) : Prop := ∃ a cap, e = .returned (.slice a L.length cap) ∧ OwSl E w' (Rg w.heap.size w'.heap.size) L a cap ∧ Below w.heap.size w w'
theorem newS_elim {α : Type} {E : Rp α} {L : List α} {w : World} {e : Ending} {w' : World} (h : NewS E L w e w') : ∃ a cap, e = .returned (.slice a L.length cap) ∧ OwSl E w' (Rg w.heap.size w'.heap.size) L a cap ∧ Below w.heap.size w w' := h
theorem Fil.news {α : Type} {E : Rp α} {w W : World} {L : List α} {Sf : Nat → Nat → Prop} (h : Fil E w W L w.heap.size Sf L.length) (hn : L.length ≤ maxLen) : NewS E L w (.returned (.slice (some ⟨w.heap.size, 0, none⟩) L.length L.length)) W :=
  ⟨_, _, rfl, h.done.slice (Nat.le_refl _) hn, h.below⟩
theorem keep_call {S : Nat → Prop} {w0 Wc w1 : World} (hb : Below Wc.heap.size Wc w1) (ho : Off S w0 Wc) (k : Nat) (hk : k < w0.heap.size) (hS : ¬ S k) : w1.heap[k]? = w0.heap[k]? :=
  (hb.block k (Nat.lt_of_lt_of_le hk ho.size)).trans (ho.block k hk hS)
theorem size_call {S : Nat → Prop} {w0 Wc w1 : World} (hb : Below Wc.heap.size Wc w1) (ho : Off S w0 Wc) : w0.heap.size ≤ w1.heap.size := Nat.le_trans ho.size hb.size
theorem rg_call {Wc w1 : World} {m : Nat} (_ : Below Wc.heap.size Wc w1) (hm : m ≤ Wc.heap.size) (k : Nat) (hk : Rg Wc.heap.size w1.heap.size k) : m ≤ k ∧ k < w1.heap.size := ⟨Nat.le_trans hm hk.1, hk.2⟩
theorem lo_of {S : Nat → Prop} {w0 Wc w1 : World} (_ : Below Wc.heap.size Wc w1) (ho : Off S w0 Wc) (k : Nat) (hk : Rg Wc.heap.size w1.heap.size k) : w0.heap.size ≤ k := Nat.le_trans ho.size hk.1
theorem el_some {α : Type} {L : List α} {k : Nat} (h : k < L.length) : ∃ x, L[k]? = some x := ⟨L[k], List.getElem?_eq_getElem h⟩
theorem sz_at {α : Type} {f : α → Nat} {L : List α} {k : Nat} {x : α} {m : Nat} (hx : L[k]? = some x) (h : L.length + sumL f L ≤ m) : f x ≤ m := by
  have key : ∀ (L : List α) (k : Nat), L[k]? = some x → f x ≤ sumL f L := by
    intro L
    induction L with
    | nil => intro k hk; simp at hk
    | cons y ys ih =>
      intro k hk
      cases k with
      | zero => simp at hk; subst hk; simp only [sumL]; omega
      | succ k => have := ih k (by simpa using hk); simp only [sumL]; omega
  have := key L k hx
  omega
theorem el_lt {α : Type} {L : List α} {k : Nat} {x : α} (h : L[k]? = some x) : k < L.length := (List.getElem?_eq_some_iff.1 h).1
theorem cells_at {W : World} {g o : Nat} {cs : List Value} (h : CellsAt W g o cs) (j : Nat) {c : Value} (hj : cs[j]? = some c) : W.cell? ⟨g, o + j, none⟩ = some c := h j c hj
end Go.Proofs.YtlgflddljhldhaaGreat.RepC
end
section
namespace Go.Proofs.YtlgflddljhldhaaGreat.RepC
open Go.RowKit RowC ValC
set_option linter.unusedVariables false
set_option linter.unusedSimpArgs false
def HeldC (k' : Int) (w : World) (e : Ending) (w' : World) : Prop := e = .returned (.int .i64 k') ∧ Below w.heap.size w w'
theorem heldC_elim {k' : Int} {w : World} {e : Ending} {w' : World} (h : HeldC k' w e w') : e = .returned (.int .i64 k') ∧ Below w.heap.size w w' := h
theorem Blk.off {w w' : World} {g : Nat} {t : TypeId} {cs : Array Value} {S : Nat → Prop} (h : Blk w g t cs) (ho : Off S w w') (hg : g < w.heap.size) (hS : ¬ S g) : Blk w' g t cs := (ho.block g hg hS).trans h
set_option maxRecDepth 100000 in
set_option maxHeartbeats 1600000 in
theorem held_Int64S {L : List Int} {a : Option Addr} {cap : Nat} {W : World} {k k' : Int} (h0 : 0 ≤ k) (h1 : k' ≤ 4611686018427387904) (hm : mmL I L k k') (h : RdSl I W W.heap.size L a cap) : Calls Tryz.prog 118 #[.slice a L.length cap, .int .i64 k] W (HeldC k' W) := by
  have hn : L.length ≤ 9223372036854775807 := by have h1 := h.1; have h2 := h.2.1; unfold maxLen at h2; omega
  have H := Lib.hid h
  have HM := Lib.hid hm
  clear h hm
  go_enter Tryz.func118, Tryz.ntmps118
  go_wp2
  go_loopw [5, 1] (fun i q wr => ∃ j : Nat, j ≤ L.length ∧ i = .int .i64 j ∧ (∃ z : Int, q = .int .i64 z ∧ 0 ≤ z ∧ mmL I (L.drop j) z k') ∧ Below W.heap.size W wr) (fun i _ _ => L.length - (intOf i).toNat)
  case atStart => exact ⟨0, Nat.zero_le _, rfl, ⟨k, rfl, h0, HM.out⟩, Below.refl _ _⟩
  case round =>
    obtain ⟨j, hj, rfl, ⟨z, rfl, hz, hmz⟩, hB⟩ := hrel
    have HB := Lib.hid hB
    by_cases hlt : j < L.length
    · obtain ⟨x, hx⟩ := el_some hlt
      obtain ⟨k1, hxm, hmn⟩ := mmL_drop hx hmz
      obtain ⟨rfl, rfl⟩ : x = z ∧ k1 = z + 1 := hxm
      have hzb := mmL_le I_mn hmn
      obtain ⟨g, o, us, rfl, hg, hu, hr⟩ := (H.out.below I_ok hB).at_ hx
      obtain rfl : us = [_] := hr
      have e0 : wr.cell? ⟨g, o + j, none⟩ = some (.int .i64 x) := by simpa [show I.size = 1 from rfl] using hu 0 _ rfl
      have HMN := Lib.hid hmn
      have hi0 : (0 : Int) ≤ (j : Int) := Int.natCast_nonneg _
      have hi1 : (j : Int) < (L.length : Int) := by omega
      have hx1 : x + 1 ≤ 4611686018427387904 := by omega
      clear hB hx hu hmz hmn
      go_wp2
      go_roundw
      case rel => exact ⟨j + 1, by omega, by go_num, ⟨_, rfl, by omega, HMN.out⟩, HB.out⟩
      case measure => simp [intOf]; omega
    · obtain rfl : j = L.length := by omega
      have HE := Lib.hid (mmL_end hmz)
      clear hmz hB
      go_wp2
      go_ret
      exact ⟨by rw [HE.out]; rfl, HB.out⟩
end Go.Proofs.YtlgflddljhldhaaGreat.RepC
end
