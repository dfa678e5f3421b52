/- Data of any type, as the laws hold them: read, owned, marked: general in the program. -/
import Derived.Test.YtdedomfocljhaaaGreatDoorRep3
import Derived.Test.YtdedomfocljhaaaGreatDoorHeld
namespace Go.Proofs.YtdedomfocljhaaaGreatDoor.RepC
open Go.RowKit RowC ValC
set_option linter.unusedVariables false

theorem gmv {α : Type} {E : Rp α} (hE : Ok E) {d : α} {cs : List Value} {w w' : World} (h : E.rd w w.heap.size d cs) (hb : Below w.heap.size w w') : E.rd w' w'.heap.size d cs := hE.rd_more (hE.rd_below h hb) hb.size
/-- data in blocks of their own that are there -/
def OwG {α : Type} (E : Rp α) (w : World) (S : Nat → Prop) (d : α) (cs : List Value) : Prop := E.ow w S d cs ∧ ∀ k, S k → k < w.heap.size
theorem OwG.mv {α : Type} {E : Rp α} (hE : Ok E) {w w' : World} {S : Nat → Prop} {d : α} {cs : List Value} (h : OwG E w S d cs) (hb : Below w.heap.size w w') : OwG E w' S d cs :=
  ⟨hE.ow_keep h.1 fun k hk => hb.block k (h.2 k hk), fun k hk => Nat.lt_of_lt_of_le (h.2 k hk) hb.size⟩
theorem OwG.off {α : Type} {E : Rp α} (hE : Ok E) {w w' : World} {S T : Nat → Prop} {d : α} {cs : List Value} (h : OwG E w S d cs) (ho : Off T w w') (hd : ∀ k, S k → ¬ T k) : OwG E w' S d cs :=
  ⟨hE.ow_keep h.1 fun k hk => ho.block k (h.2 k hk) (hd k hk), fun k hk => Nat.lt_of_lt_of_le (h.2 k hk) ho.size⟩
theorem OwG.rd {α : Type} {E : Rp α} (hE : Ok E) {w : World} {S : Nat → Prop} {d : α} {cs : List Value} (h : OwG E w S d cs) : E.rd w w.heap.size d cs := hE.ow_rd h.1 h.2
theorem owG_new {α : Type} {E : Rp α} {w : World} {m : Nat} {d : α} {cs : List Value} (h : E.ow w (Rg m w.heap.size) d cs) : OwG E w (Rg m w.heap.size) d cs := ⟨h, fun k hk => hk.2⟩
theorem ow_rd_new {α : Type} {E : Rp α} (hE : Ok E) {w : World} {m : Nat} {d : α} {cs : List Value} (h : E.ow w (Rg m w.heap.size) d cs) : E.rd w w.heap.size d cs := hE.ow_rd h fun k hk => hk.2
/-- what marking leaves -/
def MarkG {α : Type} (E : Rp α) (d : α) (cs : List Value) (S : Nat → Prop) (k : Int) (W : World) (e : Ending) (w' : World) : Prop :=
  ∃ d' z, e = .returned (.int .i64 z) ∧ E.mv d' k z ∧ z = k + (E.cv d : Nat) ∧ E.ow w' S d' cs ∧ Off S W w'
/-- an answer of one's own, a struct or a slice -/
theorem markG_elim {α : Type} {E : Rp α} {d : α} {cs : List Value} {S : Nat → Prop} {k : Int} {W : World} {e : Ending} {w' : World} (h : MarkG E d cs S k W e w') :
    ∃ d' z, e = .returned (.int .i64 z) ∧ E.mv d' k z ∧ z = k + (E.cv d : Nat) ∧ E.ow w' S d' cs ∧ Off S W w' := h
theorem newS_elim2 {α : Type} {E : Rp α} {L : List α} {w : World} {e : Ending} {w' : World} (h : NewS E L w e w') : ∃ a cap, e = .returned (.slice a L.length cap) ∧ (Sl E).ow w' (Rg w.heap.size w'.heap.size) L [.slice a L.length cap] ∧ Below w.heap.size w w' := by
  obtain ⟨a, cap, rfl, ho, hb⟩ := h
  exact ⟨a, cap, rfl, ⟨a, cap, rfl, ho⟩, hb⟩
end Go.Proofs.YtdedomfocljhaaaGreatDoor.RepC
