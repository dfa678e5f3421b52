/- Disks that change: values. -/
import Derived.Test.YtdedomfocljhaaaZrR
import Derived.Test.YtdedomfocljhaaaDsR
namespace Go.Proofs.Ytdedomfocljhaaa.ChC
open Go.RowKit SpanC KeptC RepC ValC RowC
set_option linter.unusedVariables false
set_option linter.unusedSimpArgs false
set_option maxRecDepth 100000

theorem rdG {α : Type} {E : Rp α} (hE : Ok E) {W w' : World} {L : List α} {a : Option Addr} {c : Nat} (h : RdSl E W W.heap.size L a c) (hb : Below W.heap.size W w') : RdSl E w' w'.heap.size L a c := (h.below hE hb).more hE hb.size
theorem eq_set {L : List D_Region} {r : Nat} {x : D_Region} (h : L[r]? = some x) : L.set r x = L := by
  apply List.ext_getElem?
  intro i
  by_cases e : r = i
  · subst e
    rw [List.getElem?_set_self (List.getElem?_eq_some_iff.1 h).1, h]
  · rw [List.getElem?_set_ne e]
theorem dr_sb {L : List D_Region} {p : Int} {b : Bool} (hb : diskB L p = b) {a : Option Addr} {c : Nat} {W : World} (h : RdSl R_Region W W.heap.size L a c) :
    Calls Try.prog 23 #[.agg #[.slice a L.length c, .int .i64 p]] W (fun e w' => e = .returned (.bool b) ∧ Below W.heap.size W w') := by
  subst hb
  exact (disk_s h).mono fun e w' h => resB_is diskB_iff h
theorem dr_ib {L : List D_Region} {p : Int} {b : Bool} (hb : diskB L p = b) {a : Option Addr} {c : Nat} {W : World} (h : RdSl R_Region W W.heap.size L a c) :
    Calls Try.prog 25 #[.agg #[.slice a L.length c, .int .i64 p]] W (fun e w' => e = .returned (.bool b) ∧ Below W.heap.size W w') := by
  subst hb
  exact (disk_i h).mono fun e w' h => resB_is diskB_iff h
/-- what a disk refuses ahead of all else -/
def codeV (L : List D_Region) (p r : Int) : Int := if diskB L p = true then if 0 ≤ r ∧ r < L.length then if p = 0 then 12 else 0 else 6 else 1
theorem codeV_form {L : List D_Region} {p r : Int} (h : diskB L p = false) : codeV L p r = 1 := by unfold codeV; rw [if_neg (by rw [h]; decide)]
theorem codeV_none {L : List D_Region} {p r : Int} (h : diskB L p = true) (hr : ¬ (0 ≤ r ∧ r < L.length)) : codeV L p r = 6 := by unfold codeV; rw [if_pos h, if_neg hr]
theorem codeV_down {L : List D_Region} {p r : Int} (h : diskB L p = true) (hr : 0 ≤ r ∧ r < L.length) (hp : p = 0) : codeV L p r = 12 := by unfold codeV; rw [if_pos h, if_pos hr, if_pos hp]
theorem codeV_ok {L : List D_Region} {p r : Int} (h : diskB L p = true) (hr : 0 ≤ r ∧ r < L.length) (hp : ¬ p = 0) : codeV L p r = 0 := by unfold codeV; rw [if_pos h, if_pos hr, if_neg hp]
theorem codeV_of {L : List D_Region} {p r : Int} (h : codeV L p r = 0 ∨ codeV L p r = 12) : diskP L p ∧ 0 ≤ r ∧ r < L.length := by
  unfold codeV at h
  split at h
  · rename_i hd
    split at h
    · rename_i hr
      exact ⟨diskB_iff.1 hd, hr⟩
    · rcases h with h | h <;> cases h
  · rcases h with h | h <;> cases h
theorem codeV_pow {L : List D_Region} {p r : Int} (h : codeV L p r = 0) : ¬ p = 0 := fun e => by
  have h1 := codeV_of (.inl h)
  rw [codeV_down (diskB_iff.2 h1.1) h1.2 e] at h
  cases h
/-- the answer to a refusal -/
def illV (c : Int) (L : List D_Region) (p : Int) : D_DiskOut := if c = 12 then ((L, p), 12) else (([], 0), c)
/-- the answer to a change of region r by F -/
def putV (L : List D_Region) (p : Int) (r : Nat) (y : D_Region × Int × Int) : D_DiskOut := if y.2.2 = 0 ∨ y.2.2 = 12 then ((L.set r y.1, y.2.1), y.2.2) else (([], 0), y.2.2)
def chgV (F : D_Region → Int → D_Region × Int × Int) (L : List D_Region) (p r : Int) : D_DiskOut :=
  if codeV L p r = 0 then putV L p r.toNat (F (L[r.toNat]?.getD (⟨#[]⟩, ⟨#[]⟩, ⟨#[]⟩)) p) else illV (codeV L p r) L p
theorem chgV_ill {F : D_Region → Int → D_Region × Int × Int} {L : List D_Region} {p r c : Int} (h : codeV L p r = c) (hc : ¬ c = 0) : chgV F L p r = illV c L p := by unfold chgV; rw [h, if_neg hc]
theorem chgV_at {F : D_Region → Int → D_Region × Int × Int} {L : List D_Region} {p : Int} {k : Nat} {x : D_Region} (h : codeV L p (k : Int) = 0) (hx : L[k]? = some x) : chgV F L p (k : Int) = putV L p k (F x p) := by
  unfold chgV
  rw [if_pos h, Int.toNat_natCast, hx]
  rfl
/-- a call's answer: a disk with a code, in memory of the call's own -/
def OutD (d : D_DiskOut) (W : World) (e : Ending) (w' : World) : Prop :=
  ∃ a c, ∃ S : Nat → Prop, e = .returned (.agg #[.slice a d.1.1.length c, .int .i64 d.1.2, .int .i64 d.2]) ∧ (∀ k, S k → W.heap.size ≤ k ∧ k < w'.heap.size) ∧ OwSl R_Region w' S d.1.1 a c ∧ Below W.heap.size W w'
theorem outD_elim {d : D_DiskOut} {W : World} {e : Ending} {w' : World} (h : OutD d W e w') :
  ∃ a c, ∃ S : Nat → Prop, e = .returned (.agg #[.slice a d.1.1.length c, .int .i64 d.1.2, .int .i64 d.2]) ∧ (∀ k, S k → W.heap.size ≤ k ∧ k < w'.heap.size) ∧ OwSl R_Region w' S d.1.1 a c ∧ Below W.heap.size W w' := h
theorem outD_new {d : D_DiskOut} {W : World} {e : Ending} {w' : World} (h : OutD d W e w') : NewV R_DiskOut d W e w' := by
  obtain ⟨⟨L, p⟩, c⟩ := d
  obtain ⟨a, ca, S, rfl, hS, ho, hb⟩ := h
  exact ⟨_, rfl, mkow_DiskOut (fun k hk => hS k hk) ho, hb⟩
theorem own_nil {w : World} {S : Nat → Prop} : OwSl R_Region w S [] none 0 := ⟨Nat.le_refl _, by unfold maxLen; omega, fun h => absurd h (Nat.lt_irrefl _)⟩
/-- behind the stores into the block b of the answer -/
theorem outD_put {d : D_DiskOut} {n : Nat} {p c : Int} {W w1 w2 : World} {b : Nat} {a : Option Addr} {ca : Nat} {S : Nat → Prop} (hn : d.1.1.length = n) (hp : d.1.2 = p) (hc : d.2 = c) (hb : W.heap.size ≤ b) (hB : Below W.heap.size W w1) (hS : ∀ k, S k → b < k ∧ k < w1.heap.size) (ho : OwSl R_Region w1 S d.1.1 a ca) (hoff : Off (fun k => k = b) w1 w2) :
    OutD d W (.returned (.agg #[.slice a n ca, .int .i64 p, .int .i64 c])) w2 := by
  subst hn hp hc
  exact ⟨a, ca, S, rfl, fun k hk => ⟨by have := (hS k hk).1; omega, Nat.lt_of_lt_of_le (hS k hk).2 hoff.size⟩, ho.keep R_Region_ok fun k hk => hoff.block k (hS k hk).2 (by have := (hS k hk).1; omega), hB.trans (hoff.below hB.size fun k hk => by omega)⟩
/-- a copy of a disk -/
def CopyD (L : List D_Region) (p : Int) (W : World) (e : Ending) (w' : World) : Prop := ∃ g ca, e = .returned (.agg #[.slice (some ⟨g, 0, none⟩) L.length ca, .int .i64 p]) ∧ W.heap.size ≤ g ∧ g < w'.heap.size ∧ OwnG w' g L ca ∧ Below W.heap.size W w'
theorem copyD_elim {L : List D_Region} {p : Int} {W : World} {e : Ending} {w' : World} (h : CopyD L p W e w') : ∃ g ca, e = .returned (.agg #[.slice (some ⟨g, 0, none⟩) L.length ca, .int .i64 p]) ∧ W.heap.size ≤ g ∧ g < w'.heap.size ∧ OwnG w' g L ca ∧ Below W.heap.size W w' := h
theorem copyD_put {L : List D_Region} {p : Int} {W w1 w2 : World} {g b ca : Nat} (hb : W.heap.size ≤ b) (hB : Below W.heap.size W w1) (hg : b < g) (hgl : g < w1.heap.size) (ho : OwnG w1 g L ca) (hoff : Off (fun k => k = b) w1 w2) :
    CopyD L p W (.returned (.agg #[.slice (some ⟨g, 0, none⟩) L.length ca, .int .i64 p])) w2 :=
  ⟨g, ca, rfl, by omega, Nat.lt_of_lt_of_le hgl hoff.size, ho.keep (hoff.block g hgl (by omega)), hB.trans (hoff.below hB.size fun k hk => by omega)⟩
/-- a region wiped -/
def wipeF (x : D_Region) (p : Int) : D_Region × Int × Int := ((x.1, x.2.1, ⟨#[]⟩), p, 0)
end Go.Proofs.Ytdedomfocljhaaa.ChC
