/- DiskWipe of the program: contracts. -/
import Derived.Test.YtdedomfocljhaaaZrC
namespace Go.Proofs.Ytdedomfocljhaaa.ChC
open Go.RowKit SpanC KeptC RepC ValC RowC
set_option linter.unusedVariables false
set_option linter.unusedSimpArgs false
set_option maxRecDepth 100000

theorem WrP.cells {n : Nat} {L : List D_Region} {p : Int} {G g ca k : Nat} {w : World} (h : WrP n L p G g ca k w) : w.cell? ⟨G, 0, none⟩ = some (.slice (some ⟨g, 0, none⟩) n ca) ∧ w.cell? ⟨G, 1, none⟩ = some (.int .i64 p) ∧ w.cell? ⟨G, 2, none⟩ = some (.pointer (some ⟨g, k * 3, none⟩)) := ⟨h.1.at_ 0 rfl, h.1.at_ 1 rfl, h.1.at_ 2 rfl⟩
theorem WrP.put {n : Nat} {L : List D_Region} {p : Int} {G g ca k j : Nat} {w : World} {x y : D_Region} {s : ByteArray} (h : WrP n L p G g ca k w) (hx : L[k]? = some x) (hne : G ≠ g) (hj : j < 3) (hy : encG y = (encG x).set j (.string s)) (hz : y.1.size ≤ maxLen ∧ y.2.1.size ≤ maxLen ∧ y.2.2.size ≤ maxLen) :
    WrP n (L.set k y) p G g ca k (w.setCell ⟨g, k * 3 + j, none⟩ (.string s)) ∧ Off (fun q => q = g) w (w.setCell ⟨g, k * 3 + j, none⟩ (.string s)) := by
  have hof : Off (fun q => q = g) w (w.setCell ⟨g, k * 3 + j, none⟩ (.string s)) := (Off.refl (fun q => q = g) _).setCell (p := ⟨g, k * 3 + j, none⟩) rfl _
  exact ⟨⟨h.1.off hof h.1.lt hne, h.2.put hx hj hy hz⟩, hof⟩
set_option maxHeartbeats 1600000 in
theorem wipe_do {L : List D_Region} {p : Int} {G g ca k : Nat} {x : D_Region} {w : World} (h : WrP L.length L p G g ca k w) (hx : L[k]? = some x) (hne : G ≠ g) :
    Calls Try.prog 71 (#[.pointer (some ⟨G, 0, none⟩)] ++ #[]) w (ChgO (wipeF x p) L G g ca k w) := by
  obtain ⟨x0, x1, x2⟩ := x
  obtain ⟨c0, c1, c2⟩ := h.cells
  obtain ⟨_, hf, hb⟩ := h.2.cells hx
  have ef := hf (k * 3 + 2)
  obtain ⟨e0, e1, e2⟩ := (h.2.cells hx).1
  have HP := Lib.hid (h.put (y := (x0, x1, ⟨#[]⟩)) (s := ⟨#[]⟩) (j := 2) hx hne (by omega) rfl ⟨hb.1, hb.2.1, Nat.zero_le _⟩)
  clear h hx hf hb
  go_enter Try.func71, Try.ntmps71
  go_wp2
  go_end0
  exact ⟨.inl ⟨rfl, rfl, HP.out.1⟩, HP.out.2.more fun q h => .inr h⟩
set_option maxHeartbeats 1600000 in
theorem wipe_i {L : List D_Region} {p : Int} {a : Option Addr} {ca : Nat} {W : World} (hL : RdSl R_Region W W.heap.size L a ca) {r : Int} : Calls Try.prog 37 #[.agg #[.slice a L.length ca, .int .i64 p], .int .i64 r] W (OutD (chgV wipeF L p r) W) := by
  have HR := Lib.hid hL
  have hln : L.length ≤ 9223372036854775807 := by have h1 := hL.1; have h2 := hL.2.1; unfold maxLen at h2; omega
  clear hL
  obtain ⟨d, hd⟩ : ∃ d, chgV (wipeF) L p r = d := ⟨_, rfl⟩
  rw [hd]
  have HDD := Lib.hid hd
  clear hd
  obtain ⟨w0, hw0⟩ : ∃ w, w = (W.alloc (.cells #[.slice a L.length ca, .int .i64 p] 47)).alloc (.cells #[.slice none 0 0, .int .i64 0, .int .i64 0] 55) := ⟨_, rfl⟩
  have HB0 := Lib.hid (show Below W.heap.size W w0 from by rw [hw0]; exact ((Below.refl _ _).alloc (Nat.le_refl _) _).alloc (by simp) _)
  have hq9 : Blk w0 W.heap.size 47 #[.slice a L.length ca, .int .i64 p] := by
    have h9 := Blk.new W 47 #[.slice a L.length ca, .int .i64 p]
    try simp only [World.size_alloc] at h9
    rw [hw0]
    exact (h9.alloc _)
  have XD := Lib.hid hq9
  clear hq9
  have hq9 : Blk w0 (W.heap.size + 1) 55 #[.slice none 0 0, .int .i64 0, .int .i64 0] := by
    have h9 := Blk.new (W.alloc (.cells #[.slice a L.length ca, .int .i64 p] 47)) 55 #[.slice none 0 0, .int .i64 0, .int .i64 0]
    try simp only [World.size_alloc] at h9
    rw [hw0]
    exact h9
  have XO := Lib.hid hq9
  clear hq9
  have HR := Lib.hid (rdG R_Region_ok HR.out HB0.out)
  have hcf : ∀ (args : Array Value) (w : World), (callFunc 71 args).run Try.prog w = .ok (.enter 71 args) w := fun _ _ => rfl
  go_enter Try.func37, Try.ntmps37
  go_upto_region 1 with fail
  rw [← hw0]
  clear hw0
  have XD_q0 := XD.out.at_ 0 rfl
  have XD_q1 := XD.out.at_ 1 rfl
  go_wp2_with fail
  refine (change_i (p := p) (F := wipeF) (f := 71) (caps := #[]) HR.out hcf (fun k x w G g c _ _ hx _ _ hne _ h => wipe_do h hx hne)).mono ?_
  rintro e v1 h
  clear XD_q0 XD_q1
  rw [HDD.out] at h
  obtain ⟨a2, c2, S2, rfl, hS2, hO, hb⟩ := outD_elim h
  have HO := Lib.hid hO
  have HS2 := Lib.hid hS2
  have HLX := Lib.hid XO.out.lt
  clear h hS2 hO
  have XD := Lib.hid (XD.out.call hb)
  have XO := Lib.hid (XO.out.call hb)
  have HR := Lib.hid (rdG R_Region_ok HR.out hb)
  have HB0 := Lib.hid (HB0.out.trans (hb.mono HB0.out.size))
  clear hb
  have XO_q0 := XO.out.at_ 0 rfl
  have XO_q1 := XO.out.at_ 1 rfl
  have XO_q2 := XO.out.at_ 2 rfl
  have XO_s0 := XO.out.soft 0
  have XO_s1 := XO.out.soft 1
  have XO_s2 := XO.out.soft 2
  have HST := Lib.hid (outD_put (d := d) (W := W) rfl rfl rfl (show W.heap.size ≤ W.heap.size + 1 by omega) HB0.out (S := S2) (fun k hk => by have := HS2.out k hk; have := HLX.out; omega) HO.out (putCells_off (W.heap.size + 1) [.slice a2 d.1.1.length c2, .int .i64 d.1.2, .int .i64 d.2] v1 0))
  go_wp2
  exact bodyPost_ret (v := .agg #[.slice a2 d.1.1.length c2, .int .i64 d.1.2, .int .i64 d.2]) (by simp [results, Try.results37, go_sem, *]) rfl HST.out
end Go.Proofs.Ytdedomfocljhaaa.ChC
