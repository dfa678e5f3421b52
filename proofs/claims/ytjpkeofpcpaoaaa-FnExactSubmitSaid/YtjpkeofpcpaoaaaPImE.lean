/- The program's attempt: contracts. -/
import Derived.Test.YtjpkeofpcpaoaaaPImD
namespace Go.Proofs.Ytjpkeofpcpaoaaa.RepC
open Go.RowKit RowC ValC SpanC KeptC
set_option linter.unusedVariables false
set_option linter.unusedSimpArgs false

set_option maxRecDepth 100000 in
theorem code_of (c : Int) (w : World) : Calls Try.prog 137 #[.iface 135 (.int .i64 c)] w fun e w' => e = .returned (.int .i64 c) ∧ w = w' := by
  have ha : ∀ W : World, (Instr.typeAssert (.iface 135 (.int .i64 c)) 20 135 true).run Try.prog W = .ok (.tuple #[.int .i64 c, .bool true]) W := fun W => by kernel_rfl
  go_enter Try.func137, Try.ntmps137
  go_wp2
  go_ret
  exact ⟨rfl, rfl⟩
/-- the answer beside a code -/
def illV (c : Int) : Array Value := #[.slice none 0 0, .slice none 0 0, .int .i64 0, .int .i64 0, .int .i64 c]
def putIll (w : World) (b : Nat) (c : Int) : World := ((((w.setCell ⟨b, 0, none⟩ (.slice none 0 0)).setCell ⟨b, 1, none⟩ (.slice none 0 0)).setCell ⟨b, 2, none⟩ (.int .i64 0)).setCell ⟨b, 3, none⟩ (.int .i64 0)).setCell ⟨b, 4, none⟩ (.int .i64 c)
set_option maxRecDepth 100000 in
set_option maxHeartbeats 1600000 in
theorem att_panicking (b : Nat) (vs : Array Value) (c : Int) (older : List PanicEntry) (w : World) (h5 : vs.size = 5) (hb : Blk w b 71 vs) :
    CallsD Try.prog 136 #[.pointer (some ⟨b, 0, none⟩)] (.panicking ({ v := .iface 135 (.int .i64 c), recovered := false } :: older)) w fun e u' w' =>
      e = .returned (.tuple #[]) ∧ u' = .panicking ({ v := .iface 135 (.int .i64 c), recovered := true } :: older) ∧ w' = putIll w b c := by
  refine callsD_of_wpS Try.func136 rfl fun c₀ cs hu => ?_
  apply wpS_seq
  apply wpS_region
  simp [wpOpsS, go_sem, recoverD, hu, Try.ntmps136, Exit.thenS]
  have h0 := hb.at_ 0 (Array.getElem?_eq_getElem (show 0 < vs.size by omega))
  have h1 := hb.at_ 1 (Array.getElem?_eq_getElem (show 1 < vs.size by omega))
  have h2 := hb.at_ 2 (Array.getElem?_eq_getElem (show 2 < vs.size by omega))
  have h3 := hb.at_ 3 (Array.getElem?_eq_getElem (show 3 < vs.size by omega))
  have h4 := hb.at_ 4 (Array.getElem?_eq_getElem (show 4 < vs.size by omega))
  have f0 := hb.soft 0
  have f1 := hb.soft 1
  have f2 := hb.soft 2
  have f3 := hb.soft 3
  have f4 := hb.soft 4
  refine wpS_of_wp ?_
  go_wp2_with (go_at_call 137; refine (code_of _ _).mono ?_; rintro e w' ⟨rfl, rfl⟩)
  simp [bodyPostS, results, Try.results136, putIll]
set_option maxRecDepth 100000 in
theorem att_idle (b : Nat) (w : World) :
    CallsD Try.prog 136 #[.pointer (some ⟨b, 0, none⟩)] .returning w fun e u' w' => e = .returned (.tuple #[]) ∧ u' = .returning ∧ w' = w := by
  refine callsD_of_wpS Try.func136 rfl fun c₀ cs hu => ?_
  apply wpS_seq
  apply wpS_region
  simp [wpOpsS, go_sem, recoverD, hu, Try.ntmps136, Exit.thenS]
  refine wpS_of_wp ?_
  go_wp2
  cases c₀
  simp_all [bodyPostS, results, Try.results136]

/-- what a work on a pool comes to: the pool that it leaves, or the panic of a violation -/
def WorkO (r : OutD) (lo g : Nat) (w : World) (e : Ending) (w' : World) : Prop :=
  (r.2.2.2.2 = 0 ∧ e = .returned (.int .i64 r.2.2.2.1) ∧ WP r.1 r.2.1 r.2.2.1 lo g w' ∨ ∃ c, r = illD c ∧ e = .panicked (pErr c)) ∧ Below lo w w'
theorem workO_elim {r : OutD} {lo g : Nat} {w : World} {e : Ending} {w' : World} (h : WorkO r lo g w e w') :
  (r.2.2.2.2 = 0 ∧ e = .returned (.int .i64 r.2.2.2.1) ∧ WP r.1 r.2.1 r.2.2.1 lo g w' ∨ ∃ c, r = illD c ∧ e = .panicked (pErr c)) ∧ Below lo w w' := h
/-- a pool with a number and a code, of the call's own -/
def PoolG (d : OutD) (w : World) (e : Ending) (w' : World) : Prop :=
  ∃ ca cc ja jc, ∃ T1 T2 : Nat → Prop, e = .returned (.agg #[.slice ca d.1.length cc, .slice ja d.2.1.length jc, .int .i64 d.2.2.1, .int .i64 d.2.2.2.1, .int .i64 d.2.2.2.2]) ∧ (∀ k, T1 k → Rg w.heap.size w'.heap.size k) ∧ (∀ k, T2 k → Rg w.heap.size w'.heap.size k) ∧ (∀ k, T1 k → ¬ T2 k) ∧ OwSl (Sl R_Label) w' T1 d.1 ca cc ∧ OwSl R_Job w' T2 d.2.1 ja jc ∧ Below w.heap.size w w'
theorem poolG_elim {d : OutD} {w : World} {e : Ending} {w' : World} (h : PoolG d w e w') : ∃ ca cc ja jc, ∃ T1 T2 : Nat → Prop, e = .returned (.agg #[.slice ca d.1.length cc, .slice ja d.2.1.length jc, .int .i64 d.2.2.1, .int .i64 d.2.2.2.1, .int .i64 d.2.2.2.2]) ∧ (∀ k, T1 k → Rg w.heap.size w'.heap.size k) ∧ (∀ k, T2 k → Rg w.heap.size w'.heap.size k) ∧ (∀ k, T1 k → ¬ T2 k) ∧ OwSl (Sl R_Label) w' T1 d.1 ca cc ∧ OwSl R_Job w' T2 d.2.1 ja jc ∧ Below w.heap.size w w' := h
theorem poolG_ill (c : Int) {w w' : World} (hb : Below w.heap.size w w') : PoolG (illD c) w (.returned (.agg (illV c))) w' :=
  ⟨none, 0, none, 0, fun _ => False, fun _ => False, rfl, fun k h => h.elim, fun k h => h.elim, fun k h => h.elim, own_none _ _, own_none _ _, hb⟩
theorem poolO_G {d : OutD} {w : World} {e : Ending} {w' : World} (h : PoolO d w e w') : PoolG d w e w' := by
  obtain ⟨ca, cc, ja, jc, l1, h1, l2, h2, xs, Sf, ys, Sg, he, ha1, ha2, hl1, hl2, hl3, hl4, hb⟩ := h
  obtain ⟨a1, c1, e1, ho1⟩ := ha1.done
  obtain ⟨a2, c2, e2, ho2⟩ := ha2.done
  injection e1 with p1 p2 p3
  injection e2 with q1 q2 q3
  subst p1 p3 q1 q3
  have le1 := ha1.le
  have le2 := ha2.le
  exact ⟨ca, cc, ja, jc, Rg l1 h1, Rg l2 h2, he, fun k hk => ⟨by have := hk.1; omega, by have := hk.2; omega⟩, fun k hk => ⟨by have := hk.1; omega, by have := hk.2; omega⟩, fun k h h' => by have := h.2; have := h'.1; omega, ho1, ho2, hb⟩
def putV (w : World) (b : Nat) (v0 v1 v2 v3 v4 : Value) : World := ((((w.setCell ⟨b, 0, none⟩ v0).setCell ⟨b, 1, none⟩ v1).setCell ⟨b, 2, none⟩ v2).setCell ⟨b, 3, none⟩ v3).setCell ⟨b, 4, none⟩ v4
theorem putV_off (w : World) (b : Nat) (v0 v1 v2 v3 v4 : Value) : Off (fun x => x = b) w (putV w b v0 v1 v2 v3 v4) :=
  (((((Off.refl (fun x => x = b) w).setCell (p := ⟨b, 0, none⟩) rfl _).setCell (p := ⟨b, 1, none⟩) rfl _).setCell (p := ⟨b, 2, none⟩) rfl _).setCell (p := ⟨b, 3, none⟩) rfl _).setCell (p := ⟨b, 4, none⟩) rfl _
theorem putV_blk {w : World} {b : Nat} {t : TypeId} {u0 u1 u2 u3 u4 v0 v1 v2 v3 v4 : Value} (h : Blk w b t #[u0, u1, u2, u3, u4]) : Blk (putV w b v0 v1 v2 v3 v4) b t #[v0, v1, v2, v3, v4] :=
  (((((h.set 0 v0).set 1 v1).set 2 v2).set 3 v3).set 4 v4).as rfl
theorem drew_cell {X w : World} {g o : Nat} (h : X.heap[g]? = w.heap[g]?) : X.drew.cell? ⟨g, o, none⟩ = w.cell? ⟨g, o, none⟩ := World.cell?_of_block (w' := X.drew) (a := ⟨g, o, none⟩) h
theorem Blk.drew {X : World} {g : Nat} {t : TypeId} {cs : Array Value} (h : Blk X g t cs) : Blk X.drew g t cs := h
theorem off_drew {S : Nat → Prop} {w X : World} (h : Off S w X) : Off S w X.drew := h.drew
theorem putV_cell {w : World} {b g o : Nat} {v0 v1 v2 v3 v4 : Value} (hg : g < w.heap.size) (h : g ≠ b) : (putV w b v0 v1 v2 v3 v4).drew.cell? ⟨g, o, none⟩ = w.cell? ⟨g, o, none⟩ :=
  drew_cell ((putV_off w b v0 v1 v2 v3 v4).block g hg h)
theorem putIll_off (w : World) (b : Nat) (c : Int) : Off (fun x => x = b) w (putIll w b c) :=
  (((((Off.refl (fun x => x = b) w).setCell (p := ⟨b, 0, none⟩) rfl _).setCell (p := ⟨b, 1, none⟩) rfl _).setCell (p := ⟨b, 2, none⟩) rfl _).setCell (p := ⟨b, 3, none⟩) rfl _).setCell (p := ⟨b, 4, none⟩) rfl _
theorem putIll_blk {w : World} {b : Nat} {c : Int} {t : TypeId} {u0 u1 u2 u3 u4 : Value} (h : Blk w b t #[u0, u1, u2, u3, u4]) : Blk (putIll w b c) b t (illV c) :=
  (((((h.set 0 (.slice none 0 0)).set 1 (.slice none 0 0)).set 2 (.int .i64 0)).set 3 (.int .i64 0)).set 4 (.int .i64 c)).as rfl

set_option maxRecDepth 100000 in
set_option maxHeartbeats 1200000 in
theorem attempt_spec {C : List (List D_Label)} {L : List D_Job} {now : Int} {ca ja : Option Addr} {cc jc : Nat} {W : World} (hC : RdSl (Sl R_Label) W W.heap.size C ca cc) (hL : RdSl R_Job W W.heap.size L ja jc) {f : Nat} {caps : Array Value} {r : OutD} (hf : ∀ (args : Array Value) (w : World), (callFunc f args).run Try.prog w = .ok (.enter f args) w)
    (hn : ¬ PoolR C L now → r = illD 1) (hw : PoolR C L now → ∀ w lo g, W.heap.size < lo → Below W.heap.size W w → WP C L now lo g w → Calls Try.prog f (#[.pointer (some ⟨g, 0, none⟩)] ++ caps) w (WorkO r lo g w)) :
    Calls Try.prog 109 #[.agg #[.slice ca C.length cc, .slice ja L.length jc, .int .i64 now], .func (Fn.func f) #[] caps] W (PoolG r W) := by
  have hmf : ∀ (fn : Fn) (first cap : Array Value) (w : World), (Instr.makeFunc fn first cap).run Try.prog w = .ok (.func fn first cap) w := fun _ _ _ _ => rfl
  have HW := Lib.hid hw
  have HB0 := Lib.hid (show Below W.heap.size W ((W.alloc (.cells #[.slice ca C.length cc, .slice ja L.length jc, .int .i64 now] 65)).alloc (.cells #[.slice none 0 0, .slice none 0 0, .int .i64 0, .int .i64 0, .int .i64 0] 71)) from ((Below.refl _ _).alloc (Nat.le_refl _) _).alloc (by simp) _)
  have HC := Lib.hid (rd_mv (Sl_ok R_Label_ok) hC HB0.out)
  have HL := Lib.hid (rd_mv R_Job_ok hL HB0.out)
  have HP0 := Lib.hid ((Blk.new W 65 #[.slice ca C.length cc, .slice ja L.length jc, .int .i64 now]).alloc (.cells #[.slice none 0 0, .slice none 0 0, .int .i64 0, .int .i64 0, .int .i64 0] 71))
  have HO0 := Lib.hid (Blk.new (W.alloc (.cells #[.slice ca C.length cc, .slice ja L.length jc, .int .i64 now] 65)) 71 #[.slice none 0 0, .slice none 0 0, .int .i64 0, .int .i64 0, .int .i64 0])
  simp only [World.size_alloc] at HO0
  have hz0 := HB0.out.size
  have HHN := Lib.hid hn
  clear hC hL hw hn
  go_enter_defers Try.func109, Try.ntmps109
  go_wp2_with fail
  refine (checkpool_spec (now := now) HC.out HL.out).mono ?_
  intro e w1 h
  obtain ⟨h, hb⟩ := resP_elim h
  have HB1 := Lib.hid (HB0.out.trans (hb.mono hz0))
  have HP1 := Lib.hid (HP0.out.call hb)
  have HO1 := Lib.hid (HO0.out.call hb)
  have HC1 := Lib.hid (rd_mv (Sl_ok R_Label_ok) HC.out hb)
  have HL1 := Lib.hid (rd_mv R_Job_ok HL.out hb)
  have hz1 := HB1.out.size
  clear hb
  rcases h with ⟨hr, rfl⟩ | ⟨hr, rfl⟩
  rotate_left
  · have HN := Lib.hid (HHN.out hr)
    have HBt := Lib.hid (HB1.out.trans (((putIll_off w1 (W.heap.size + 1) 1).below (B := W.heap.size) (by omega) (fun k hk => by omega))))
    have HV := Lib.hid (putIll_blk (c := 1) HO1.out)
    clear hr
    unfold pErr
    go_wp2
    refine leaves_cons (f := 136) (args := #[.pointer (some ⟨W.heap.size + 1, 0, none⟩)]) (by simp) (by simp [go_sem]) ?_
    refine (att_panicking (W.heap.size + 1) _ 1 _ _ rfl HO1.out).mono ?_
    rintro e u' w'' ⟨rfl, rfl, rfl⟩
    have v0 : (putIll w1 (W.heap.size + 1) 1).cell? ⟨W.heap.size + 1, 0, none⟩ = some (.slice none 0 0) := HV.out.at_ 0 rfl
    have v1 : (putIll w1 (W.heap.size + 1) 1).cell? ⟨W.heap.size + 1, 1, none⟩ = some (.slice none 0 0) := HV.out.at_ 1 rfl
    have v2 : (putIll w1 (W.heap.size + 1) 1).cell? ⟨W.heap.size + 1, 2, none⟩ = some (.int .i64 0) := HV.out.at_ 2 rfl
    have v3 : (putIll w1 (W.heap.size + 1) 1).cell? ⟨W.heap.size + 1, 3, none⟩ = some (.int .i64 0) := HV.out.at_ 3 rfl
    have v4 : (putIll w1 (W.heap.size + 1) 1).cell? ⟨W.heap.size + 1, 4, none⟩ = some (.int .i64 1) := HV.out.at_ 4 rfl
    refine ⟨.agg (illV 1), by simp [results, Try.results109, go_sem, v0, v1, v2, v3, v4, illV], ?_⟩
    rw [HN.out]
    exact poolG_ill 1 HBt.out
  · have HPR := Lib.hid hr
    clear hr
    have p0 := HP1.out.at_ 0 rfl
    have p1 := HP1.out.at_ 1 rfl
    have p2 := HP1.out.at_ 2 rfl
    go_wp2_with fail
    refine (workon_spec HPR.out HC1.out HL1.out).mono ?_
    intro e w2 h
    obtain ⟨g, rfl, hwp, hb⟩ := workR_elim h
    have HWP := Lib.hid hwp
    have HB2 := Lib.hid (HB1.out.trans (hb.mono hz1))
    have HO2 := Lib.hid (HO1.out.call hb)
    have hlo : W.heap.size < w1.heap.size := by have := HO1.out.lt; omega
    have hlo1 : W.heap.size + 1 < w1.heap.size := HO1.out.lt
    clear h hwp p0 p1 p2
    go_wp2_with fail
    refine (HW.out HPR.out w2 w1.heap.size g hlo HB2.out HWP.out).mono ?_
    intro e w3 h
    obtain ⟨h, hb3⟩ := workO_elim h
    have HB3 := Lib.hid (HB2.out.trans (hb3.mono (by omega)))
    have HO3 := Lib.hid (show Blk w3 (W.heap.size + 1) 71 _ from (hb3.block (W.heap.size + 1) hlo1).trans HO2.out)
    clear HW hb3
    rcases h with ⟨hc0, rfl, hwp3⟩ | ⟨c, hc, rfl⟩
    · obtain ⟨ca3, cc3, ja3, jc3, l1, h1, l2, h2, xs, Sf, ys, Sg, hG, hA1, hA2, hl1, hl2, hl3, hl4, hl5, hl6, hdj, hng⟩ := hwp3
      obtain ⟨a1, c1, e1, ho1⟩ := hA1.done2
      obtain ⟨a2, c2, e2, ho2⟩ := hA2.done
      injection e1 with p1 p2 p3
      injection e2 with q1 q2 q3
      subst p1 p3 q1 q3
      have HG := Lib.hid hG
      have HO1' := Lib.hid ho1
      have HO2' := Lib.hid ho2
      have le1 := hA1.le
      have le2 := hA2.le
      have HBJ := Lib.hid (fun k hk => hA1.bears (k := k) hk)
      have HDJ := Lib.hid hdj
      have g0 := HG.out.at_ 0 rfl
      have g1 := HG.out.at_ 1 rfl
      have g2 := HG.out.at_ 2 rfl
      clear hA1 hA2 hG ho1 ho2 hdj hng
      obtain ⟨rC, rL, rn, ri, rc⟩ := r
      simp only at hc0 g0 g1 g2 HO1' HO2' HG
      subst hc0
      have hlg : W.heap.size + 1 < g := by omega
      have o0 := HO3.out.at_ 0 rfl
      have o1 := HO3.out.at_ 1 rfl
      have o2 := HO3.out.at_ 2 rfl
      have o3 := HO3.out.at_ 3 rfl
      have o4 := HO3.out.at_ 4 rfl
      have f0 := HO3.out.soft 0
      have f1 := HO3.out.soft 1
      have f2 := HO3.out.soft 2
      have f3 := HO3.out.soft 3
      have f4 := HO3.out.soft 4
      have HOF := Lib.hid (off_drew (putV_off w3 (W.heap.size + 1) (.slice ca3 rC.length cc3) (.slice ja3 rL.length jc3) (.int .i64 rn) (.int .i64 ri) (.int .i64 0)))
      have HV := Lib.hid (putV_blk (v0 := .slice ca3 rC.length cc3) (v1 := .slice ja3 rL.length jc3) (v2 := .int .i64 rn) (v3 := .int .i64 ri) (v4 := .int .i64 0) HO3.out)
      have HVd := Lib.hid HV.out.drew
      have HBt := Lib.hid (HB3.out.trans (HOF.out.below (B := W.heap.size) HB3.out.size (fun k hk => by omega)))
      have HC0 := Lib.hid ((putV_cell (v0 := .slice ca3 rC.length cc3) (v1 := .slice ja3 rL.length jc3) (v2 := .int .i64 rn) (v3 := .int .i64 ri) (v4 := .int .i64 0) HG.out.lt (show g ≠ W.heap.size + 1 by omega)).trans g0)
      have HC1' := Lib.hid ((putV_cell (v0 := .slice ca3 rC.length cc3) (v1 := .slice ja3 rL.length jc3) (v2 := .int .i64 rn) (v3 := .int .i64 ri) (v4 := .int .i64 0) HG.out.lt (show g ≠ W.heap.size + 1 by omega)).trans g1)
      have HC2 := Lib.hid ((putV_cell (v0 := .slice ca3 rC.length cc3) (v1 := .slice ja3 rL.length jc3) (v2 := .int .i64 rn) (v3 := .int .i64 ri) (v4 := .int .i64 0) HG.out.lt (show g ≠ W.heap.size + 1 by omega)).trans g2)
      go_wp2_with fail
      refine wp_region_noPanic ?_
      refine wp_region_held_drew (S := (fun V => V.cell? ⟨g, 0, none⟩ = some (.slice ja3 rL.length jc3) ∧ V.cell? ⟨g, 1, none⟩ = some (.slice ca3 rC.length cc3) ∧ V.cell? ⟨g, 2, none⟩ = some (.int .i64 rn))) (by kernel_rfl) (⟨g0, g1, g2⟩) (fun hHeld => ?_)
      (refine wpAnyH_take (i := 0) (v := ?hv1) rfl (by kernel_rfl) (by kernel_rfl) (by kernel_rfl) (fun _ _ _ h => h) (Or.inl ⟨by kernel_rfl, ?hy1⟩) hHeld ?hr1; case hy1 => (intro w hSw; (try dsimp only at hSw); go_simp; try with_reducible rfl))
      simp only [Act.put, List.getElem_toArray, List.getElem_cons_succ, List.getElem_cons_zero, List.setIfInBounds_toArray, List.set_cons_zero, List.set_cons_succ]
      (refine wpAnyH_take (i := 1) (v := ?hv2) rfl (by kernel_rfl) (by kernel_rfl) (by kernel_rfl) (fun _ _ _ h => h) (Or.inl ⟨by kernel_rfl, ?hy2⟩) hHeld ?hr2; case hy2 => (intro w hSw; (try dsimp only at hSw); go_simp; try with_reducible rfl))
      simp only [Act.put, List.getElem_toArray, List.getElem_cons_succ, List.getElem_cons_zero, List.setIfInBounds_toArray, List.set_cons_zero, List.set_cons_succ]
      (refine wpAnyH_take (i := 2) (v := ?hv3) rfl (by kernel_rfl) (by kernel_rfl) (by kernel_rfl) (fun _ _ _ h => h) (Or.inl ⟨by kernel_rfl, ?hy3⟩) hHeld ?hr3; case hy3 => (intro w hSw; (try dsimp only at hSw); go_simp; try with_reducible rfl))
      simp only [Act.put, List.getElem_toArray, List.getElem_cons_succ, List.getElem_cons_zero, List.setIfInBounds_toArray, List.set_cons_zero, List.set_cons_succ]
      (refine wpAnyH_take (i := 3) (v := ?hv4) rfl (by kernel_rfl) (by kernel_rfl) (by kernel_rfl) (fun _ _ _ h => h) (Or.inl ⟨by kernel_rfl, ?hy4⟩) hHeld ?hr4; case hy4 => (intro w hSw; (try dsimp only at hSw); have k0 := hSw.2.1; clear hSw; go_simp; try with_reducible rfl))
      simp only [Act.put, List.getElem_toArray, List.getElem_cons_succ, List.getElem_cons_zero, List.setIfInBounds_toArray, List.set_cons_zero, List.set_cons_succ]
      (refine wpAnyH_take (i := 4) (v := ?hv5) rfl (by kernel_rfl) (by kernel_rfl) (by kernel_rfl) (fun _ _ _ h => h) (Or.inl ⟨by kernel_rfl, ?hy5⟩) hHeld ?hr5; case hy5 => (intro w hSw; (try dsimp only at hSw); go_simp; try with_reducible rfl))
      simp only [Act.put, List.getElem_toArray, List.getElem_cons_succ, List.getElem_cons_zero, List.setIfInBounds_toArray, List.set_cons_zero, List.set_cons_succ]
      (refine wpAnyH_take (i := 5) (v := ?hv6) rfl (by kernel_rfl) (by kernel_rfl) (by kernel_rfl) (fun _ _ _ h => h) (Or.inl ⟨by kernel_rfl, ?hy6⟩) hHeld ?hr6; case hy6 => (intro w hSw; (try dsimp only at hSw); go_simp; try with_reducible rfl))
      simp only [Act.put, List.getElem_toArray, List.getElem_cons_succ, List.getElem_cons_zero, List.setIfInBounds_toArray, List.set_cons_zero, List.set_cons_succ]
      (refine wpAnyH_take (i := 6) (v := ?hv7) rfl (by kernel_rfl) (by kernel_rfl) (by kernel_rfl) (fun _ _ _ h => h) (Or.inl ⟨by kernel_rfl, ?hy7⟩) hHeld ?hr7; case hy7 => (intro w hSw; (try dsimp only at hSw); go_simp; try with_reducible rfl))
      simp only [Act.put, List.getElem_toArray, List.getElem_cons_succ, List.getElem_cons_zero, List.setIfInBounds_toArray, List.set_cons_zero, List.set_cons_succ]
      (refine wpAnyH_take (i := 7) (v := ?hv8) rfl (by kernel_rfl) (by kernel_rfl) (by kernel_rfl) (fun _ _ _ h => h) (Or.inl ⟨by kernel_rfl, ?hy8⟩) hHeld ?hr8; case hy8 => (intro w hSw; (try dsimp only at hSw); have k0 := hSw.1; clear hSw; go_simp; try with_reducible rfl))
      simp only [Act.put, List.getElem_toArray, List.getElem_cons_succ, List.getElem_cons_zero, List.setIfInBounds_toArray, List.set_cons_zero, List.set_cons_succ]
      (refine wpAnyH_take (i := 8) (v := ?hv9) rfl (by kernel_rfl) (by kernel_rfl) (by kernel_rfl) (fun _ _ _ h => h) (Or.inl ⟨by kernel_rfl, ?hy9⟩) hHeld ?hr9; case hy9 => (intro w hSw; (try dsimp only at hSw); go_simp; try with_reducible rfl))
      simp only [Act.put, List.getElem_toArray, List.getElem_cons_succ, List.getElem_cons_zero, List.setIfInBounds_toArray, List.set_cons_zero, List.set_cons_succ]
      (refine wpAnyH_take (i := 9) (v := ?hv10) rfl (by kernel_rfl) (by kernel_rfl) (by kernel_rfl) (fun _ _ _ h => h) (Or.inl ⟨by kernel_rfl, ?hy10⟩) hHeld ?hr10; case hy10 => (intro w hSw; (try dsimp only at hSw); go_simp; try with_reducible rfl))
      simp only [Act.put, List.getElem_toArray, List.getElem_cons_succ, List.getElem_cons_zero, List.setIfInBounds_toArray, List.set_cons_zero, List.set_cons_succ]
      (refine wpAnyH_take (i := 10) (v := ?hv11) rfl (by kernel_rfl) (by kernel_rfl) (by kernel_rfl) (fun _ _ _ h => h) (Or.inl ⟨by kernel_rfl, ?hy11⟩) hHeld ?hr11; case hy11 => (intro w hSw; (try dsimp only at hSw); go_simp; try with_reducible rfl))
      simp only [Act.put, List.getElem_toArray, List.getElem_cons_succ, List.getElem_cons_zero, List.setIfInBounds_toArray, List.set_cons_zero, List.set_cons_succ]
      (refine wpAnyH_take (i := 11) (v := ?hv12) rfl (by kernel_rfl) (by kernel_rfl) (by kernel_rfl) (fun _ _ _ h => h) (Or.inl ⟨by kernel_rfl, ?hy12⟩) hHeld ?hr12; case hy12 => (intro w hSw; (try dsimp only at hSw); have k0 := hSw.2.2; clear hSw; go_simp; try with_reducible rfl))
      simp only [Act.put, List.getElem_toArray, List.getElem_cons_succ, List.getElem_cons_zero, List.setIfInBounds_toArray, List.set_cons_zero, List.set_cons_succ]
      (refine wpAnyH_take (i := 12) (v := ?hv13) rfl (by kernel_rfl) (by kernel_rfl) (by kernel_rfl) (fun _ _ _ h => h) (Or.inl ⟨by kernel_rfl, ?hy13⟩) hHeld ?hr13; case hy13 => (intro w hSw; (try dsimp only at hSw); go_simp; try with_reducible rfl))
      simp only [Act.put, List.getElem_toArray, List.getElem_cons_succ, List.getElem_cons_zero, List.setIfInBounds_toArray, List.set_cons_zero, List.set_cons_succ]
      (refine wpAnyH_take (i := 13) (v := ?hv14) rfl (by kernel_rfl) (by kernel_rfl) (by kernel_rfl) (fun _ _ _ h => h) (Or.inl ⟨by kernel_rfl, ?hy14⟩) hHeld ?hr14; case hy14 => (intro w hSw; (try dsimp only at hSw); go_simp; try with_reducible rfl))
      simp only [Act.put, List.getElem_toArray, List.getElem_cons_succ, List.getElem_cons_zero, List.setIfInBounds_toArray, List.set_cons_zero, List.set_cons_succ]
      (refine wpAnyH_take (i := 14) (v := ?hv15) rfl (by kernel_rfl) (by kernel_rfl) (by kernel_rfl) (fun _ _ _ h => h) (Or.inl ⟨by kernel_rfl, ?hy15⟩) hHeld ?hr15; case hy15 => (intro w hSw; (try dsimp only at hSw); go_simp; try with_reducible rfl))
      simp only [Act.put, List.getElem_toArray, List.getElem_cons_succ, List.getElem_cons_zero, List.setIfInBounds_toArray, List.set_cons_zero, List.set_cons_succ]
      refine wpAnyH_ready (rs := [15]) (by kernel_rfl) (by simp) ?_
      refine AllReadyH.cons rfl (fun K hK => ?_) (AllReadyH.nil)
      go_simp
      change K _ (putV w3 (W.heap.size + 1) (.slice ca3 rC.length cc3) (.slice ja3 rL.length jc3) (.int .i64 rn) (.int .i64 ri) (.int .i64 0)).drew
      refine hK.out _ _ ⟨HC0.out, HC1'.out, HC2.out⟩ (fun hHeld => ?_)
      clear hK K
      try simp only [Act.put, List.getElem_toArray, List.getElem_cons_succ, List.getElem_cons_zero, List.setIfInBounds_toArray, List.set_cons_zero, List.set_cons_succ]
      refine wpAnyH_done (by kernel_rfl) ?_ _
      refine NoPanic.normal ?_
      go_wp2
      refine leaves_cons (f := 136) (args := #[.pointer (some ⟨W.heap.size + 1, 0, none⟩)]) (by simp) (by simp [go_sem]) ?_
      refine (att_idle (W.heap.size + 1) _).mono ?_
      rintro e u' w'' ⟨rfl, rfl, rfl⟩
      have v0 : (putV w3 (W.heap.size + 1) (.slice ca3 rC.length cc3) (.slice ja3 rL.length jc3) (.int .i64 rn) (.int .i64 ri) (.int .i64 0)).drew.cell? ⟨W.heap.size + 1, 0, none⟩ = some (.slice ca3 rC.length cc3) := HVd.out.at_ 0 rfl
      have v1 : (putV w3 (W.heap.size + 1) (.slice ca3 rC.length cc3) (.slice ja3 rL.length jc3) (.int .i64 rn) (.int .i64 ri) (.int .i64 0)).drew.cell? ⟨W.heap.size + 1, 1, none⟩ = some (.slice ja3 rL.length jc3) := HVd.out.at_ 1 rfl
      have v2 : (putV w3 (W.heap.size + 1) (.slice ca3 rC.length cc3) (.slice ja3 rL.length jc3) (.int .i64 rn) (.int .i64 ri) (.int .i64 0)).drew.cell? ⟨W.heap.size + 1, 2, none⟩ = some (.int .i64 rn) := HVd.out.at_ 2 rfl
      have v3 : (putV w3 (W.heap.size + 1) (.slice ca3 rC.length cc3) (.slice ja3 rL.length jc3) (.int .i64 rn) (.int .i64 ri) (.int .i64 0)).drew.cell? ⟨W.heap.size + 1, 3, none⟩ = some (.int .i64 ri) := HVd.out.at_ 3 rfl
      have v4 : (putV w3 (W.heap.size + 1) (.slice ca3 rC.length cc3) (.slice ja3 rL.length jc3) (.int .i64 rn) (.int .i64 ri) (.int .i64 0)).drew.cell? ⟨W.heap.size + 1, 4, none⟩ = some (.int .i64 0) := HVd.out.at_ 4 rfl
      have HSZ := HOF.out.size
      refine ⟨.agg #[.slice ca3 rC.length cc3, .slice ja3 rL.length jc3, .int .i64 rn, .int .i64 ri, .int .i64 0], ?_, ?_⟩
      · simp [results, Try.results109, go_sem] at v0 v1 v2 v3 v4 ⊢
        simp [results, Try.results109, go_sem, v0, v1, v2, v3, v4]
      · have hbk : ∀ q, W.heap.size + 1 < q → q < w3.heap.size → (putV w3 (W.heap.size + 1) (.slice ca3 rC.length cc3) (.slice ja3 rL.length jc3) (.int .i64 rn) (.int .i64 ri) (.int .i64 0)).drew.heap[q]? = w3.heap[q]? := fun q h1 h2 => HOF.out.block q h2 (by omega)
        exact ⟨ca3, cc3, ja3, jc3, Rg l2 h2, Bears (.slice ja3 rL.length jc3) Sf, rfl, fun k hk => ⟨by have := hk.1; omega, by have := hk.2; show k < (putV w3 (W.heap.size + 1) (.slice ca3 rC.length cc3) (.slice ja3 rL.length jc3) (.int .i64 rn) (.int .i64 ri) (.int .i64 0)).drew.heap.size; omega⟩, fun k hk => ⟨by have := (HBJ.out k hk).1; omega, by have := (HBJ.out k hk).2; show k < (putV w3 (W.heap.size + 1) (.slice ca3 rC.length cc3) (.slice ja3 rL.length jc3) (.int .i64 rn) (.int .i64 ri) (.int .i64 0)).drew.heap.size; omega⟩, fun k h h' => HDJ.out k h' h, OwSl.keep (Sl_ok R_Label_ok) HO2'.out (fun k hk => hbk k (by have := hk.1; omega) (by have := hk.2; omega)), OwSl.keep R_Job_ok HO1'.out (fun k hk => hbk k (by have := (HBJ.out k hk).1; omega) (by have := (HBJ.out k hk).2; omega)), HBt.out⟩
    · have HR := Lib.hid hc
      have HBt := Lib.hid (HB3.out.trans ((putIll_off w3 (W.heap.size + 1) c).below (B := W.heap.size) HB3.out.size (fun k hk => by omega)))
      have HV := Lib.hid (putIll_blk (c := c) HO3.out)
      clear hc
      unfold pErr
      go_wp2
      refine leaves_cons (f := 136) (args := #[.pointer (some ⟨W.heap.size + 1, 0, none⟩)]) (by simp) (by simp [go_sem]) ?_
      refine (att_panicking (W.heap.size + 1) _ c _ _ rfl HO3.out).mono ?_
      rintro e u' w'' ⟨rfl, rfl, rfl⟩
      have v0 : (putIll w3 (W.heap.size + 1) c).cell? ⟨W.heap.size + 1, 0, none⟩ = some (.slice none 0 0) := HV.out.at_ 0 rfl
      have v1 : (putIll w3 (W.heap.size + 1) c).cell? ⟨W.heap.size + 1, 1, none⟩ = some (.slice none 0 0) := HV.out.at_ 1 rfl
      have v2 : (putIll w3 (W.heap.size + 1) c).cell? ⟨W.heap.size + 1, 2, none⟩ = some (.int .i64 0) := HV.out.at_ 2 rfl
      have v3 : (putIll w3 (W.heap.size + 1) c).cell? ⟨W.heap.size + 1, 3, none⟩ = some (.int .i64 0) := HV.out.at_ 3 rfl
      have v4 : (putIll w3 (W.heap.size + 1) c).cell? ⟨W.heap.size + 1, 4, none⟩ = some (.int .i64 c) := HV.out.at_ 4 rfl
      refine ⟨.agg (illV c), by simp [results, Try.results109, go_sem, v0, v1, v2, v3, v4, illV], ?_⟩
      rw [HR.out]
      exact poolG_ill c HBt.out
end Go.Proofs.Ytjpkeofpcpaoaaa.RepC
