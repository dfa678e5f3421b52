/- 'copy' of spans into a row under way; booksOf of the program: a contract. -/
import Derived.Test.YtfciojkibklkfaaNARow
import Derived.Laws.IdiomCopy
import Derived.Lib.SliceRun
namespace Go.Proofs.Ytfciojkibklkfaa.RepC
open Go.RowKit RowC ValC
set_option linter.unusedVariables false
set_option linter.unusedSimpArgs false

theorem below_setCells {B b : Nat} {w : World} (hB : B ≤ b) : ∀ (vs : List Value) (o : Nat) (W : World), Below B w W → Below B w (W.setCells b o vs)
  | [], _, _, h => h
  | v :: r, o, W, h => below_setCells hB r (o + 1) _ (h.setCell (p := ⟨b, o, none⟩) hB v)
theorem size_setCells {b : Nat} : ∀ (vs : List Value) (o : Nat) (W : World), (W.setCells b o vs).heap.size = W.heap.size
  | [], _, _ => rfl
  | v :: r, o, W => by rw [World.setCells, size_setCells r]; simp
theorem off_setCells {b : Nat} {w : World} : ∀ (vs : List Value) (o : Nat) (W : World), Off (fun k => k = b) w W → Off (fun k => k = b) w (W.setCells b o vs)
  | [], _, _, h => h
  | v :: r, o, W, h => off_setCells r (o + 1) _ (h.setCell (p := ⟨b, o, none⟩) rfl v)
theorem run_copy2 {P : Program} (w : World) {dT sT ty elem : TypeId} {i : TypeInfo} (hu : P.underlying dT = some (.slice elem)) (hi : P.info? elem = some i) (b o dLen dCap : Nat) (a : Addr) (sLen sCap : Nat) (cs : List Value) (n : Nat) (hn : Nat.min sLen dLen = n) (hlen : cs.length = n * i.size)
    (hsrc : ∀ j v, cs[j]? = some v → w.cell? (a.add j) = some v) (hc : ∀ j, j < cs.length → (w.cell? ⟨b, o + j, none⟩).isSome = true) (hf : ∀ j, j < cs.length → w.frozen? ⟨b, o + j, none⟩ = false) (h1 : ∀ v ∈ cs, v.oneCell' = true) :
    (Builtin.copy_ #[dT, sT] ty #[.slice (some ⟨b, o, none⟩) dLen dCap, .slice (some a) sLen sCap]).run P w = .ok (.int .i64 n) (w.setCells b o cs) := by
  have hl := run_loadCells_list (P := P) w a cs hsrc
  have hst := run_storeCells_cells (P := P) b o cs 0 w (by simpa using hc) (by simpa using hf) h1
  rw [hlen] at hl
  simp [Builtin.copy_, run_underlying hu, Builtin.lenOf, Builtin.firstCells, sizeOf, typeInfo, hi, hn, hl, hst, goInt]
theorem run_copy0 {P : Program} (w : World) {dT sT ty elem : TypeId} {i : TypeInfo} (hu : P.underlying dT = some (.slice elem)) (hi : P.info? elem = some i) (d a : Option Addr) (dLen dCap sLen sCap : Nat) (hn : Nat.min sLen dLen = 0) :
    (Builtin.copy_ #[dT, sT] ty #[.slice d dLen dCap, .slice a sLen sCap]).run P w = .ok (.int .i64 0) w := by
  have hl : ∀ (x : Addr), (loadCells x 0).run P w = .ok #[] w := fun x => by simpa using run_loadCells_list (P := P) w x [] (by simp)
  cases d <;> cases a <;> simp [Builtin.copy_, run_underlying hu, Builtin.lenOf, Builtin.firstCells, sizeOf, typeInfo, hi, hn, storeCells, hl, goInt]
theorem wpList_copyR {P : Program} {ops : Array Oper} {rest : List Oper} {o : Oper} {a : Act} {W : World} {Q : Exit → Act → World → Prop} (hgd : o.guard = none) (s x : Operand) (t t' : TypeId)
    (ho : o.op = .call { callee := .builtin .copy, args := #[s, x], argTypes := #[t, t'] }) {v y : Value} (hs : a.eval s = v) (hx : a.eval x = y)
    {v' : Value} {W' : World} (hr : (Builtin.copy_ #[t, t'] o.type #[v, y]).run P W = .ok v' W') (h : wpList P ops Q rest (a.put o.dst v') W') : wpList P ops Q (o :: rest) a W := by
  refine wpList_plain hgd fun K hK => ?_
  unfold Oper.wp execOp
  simp only [ho, resolve, invoke, builtin, Sem.run_bind, Sem.run_pure, Result.andThen_ok, List.map_toArray, List.map_cons, List.map_nil, hs, hx, hr]
  exact hK _ _ h

theorem mv_rdB {α : Type} {E : Rp α} (hE : Ok E) {L : List α} {a : Option Addr} {cap : Nat} {w w' : World} (h : RdSl E w w.heap.size L a cap) (hb : Below w.heap.size w w') : RdSl E w' w'.heap.size L a cap := (h.below hE hb).more hE hb.size
abbrev noSf : Nat → Nat → Prop := fun _ _ => False
def fS (x : D_Span) : List Value := [.int .i64 x.1, .int .i64 x.2]
theorem copy_fil {w W : World} {L M : List D_Span} {g k : Nat} {dp ba : Option Addr} {bc : Nat} {ty : TypeId} (hF : Fil R_Span w W L g noSf k) (hkM : k + M.length ≤ L.length) (hsub : ∀ i x, M[i]? = some x → L[k + i]? = some x) (hdp : k < L.length → dp = some ⟨g, k * 2, none⟩) (hM : RdSl R_Span W W.heap.size M ba bc) :
    ∃ w', (Builtin.copy_ #[39, 39] ty #[.slice dp (L.length - k) (L.length - k), .slice ba M.length bc]).run Try.prog W = .ok (.int .i64 M.length) w' ∧ Fil R_Span w w' L g noSf (k + M.length) := by
  obtain ⟨i, hi, hz, hs, hby⟩ := infoSpan
  have ht : Try.prog.underlying 39 = some (.slice 25) := Try.underlying39
  by_cases h0 : M.length = 0
  · exact ⟨W, by rw [h0]; exact run_copy0 W ht hi _ _ _ _ _ _ (by simp), by rw [h0]; exact hF⟩
  obtain ⟨g', o, rfl, hg', hel⟩ := hM.2.2 (by omega)
  obtain rfl := hdp (by omega)
  have hfl : (M.flatMap fS).length = M.length * 2 := flatMap_len R_Span_ok flat_Span W M
  have hthere : ∀ j, j < M.length * 2 → ∃ u, W.cell? ⟨g, k * 2 + j, none⟩ = some u := fun j hj => hF.there _ (by rw [size_SpanS]; omega)
  have hcells : CellsAt W g' o (M.flatMap fS) := flatMap_cells R_Span_ok flat_Span W g' M o fun q x hx => by
    obtain ⟨us, hu, hr⟩ := hel q x hx
    rw [← flat_Span.rd hr]
    exact hu
  have hrun := run_copy2 (P := Try.prog) W (dT := 39) (sT := 39) (ty := ty) ht hi g (k * 2) (L.length - k) (L.length - k) ⟨g', o, none⟩ M.length bc (M.flatMap fS) M.length (by show min M.length (L.length - k) = _; omega) (by rw [hs]; exact hfl)
    (fun j v hj => by rw [show (⟨g', o, none⟩ : Addr).add j = ⟨g', o + j, none⟩ by unfold Addr.add; split <;> simp_all]; exact hcells j v hj)
    (fun j hj => by obtain ⟨u, hu⟩ := hthere j (by omega); rw [hu]; rfl) (fun j _ => hF.soft _)
    (fun v hv => by obtain ⟨y, _, hv⟩ := List.mem_flatMap.1 hv; simp [fS] at hv; rcases hv with rfl | rfl <;> rfl)
  refine ⟨_, hrun, fun q x hq hx => ?_, fun j hj => ?_, fun j => by rw [World.frozen?_setCells]; exact hF.soft j, fun _ _ h => h.elim, fun _ _ _ _ h => h.elim, hF.base, by rw [size_setCells]; exact hF.lt, ?_⟩
  · refine ⟨fS x, fun j d hj => ?_, flat_Span.ow _ _ _⟩
    have hj2 : j < 2 := (List.getElem?_eq_some_iff.1 hj).1
    rw [size_SpanS]
    by_cases hqk : q < k
    · rw [World.cell?_setCells_out _ _ _ _ _ (fun _ _ => .inl (by show q * 2 + j < k * 2; omega))]
      obtain ⟨us, hu, hr⟩ := hF.el q x hqk hx
      have e : us = fS x := by obtain ⟨x0, x1⟩ := x; exact ow0_Span hr
      subst e
      have := hu j d hj
      rwa [size_SpanS] at this
    · obtain ⟨p, rfl⟩ : ∃ p, q = k + p := ⟨q - k, by omega⟩
      have hp : p < M.length := by omega
      obtain ⟨y, hy⟩ := el_some hp
      have := hsub p y hy
      rw [hx] at this
      obtain rfl := Option.some.inj this
      have hfm : (M.flatMap fS)[p * 2 + j]? = some d := by
        have h9 := flatMap_at R_Span_ok flat_Span W M p x hy j d hj
        rw [size_SpanS] at h9
        exact h9
      obtain ⟨hl, hv⟩ := List.getElem?_eq_some_iff.1 hfm
      rw [show (k + p) * 2 + j = k * 2 + (p * 2 + j) by omega]
      rw [World.cell?_setCells_in g _ _ _ (fun j hj => by obtain ⟨u, hu⟩ := hthere j (by rw [hfl] at hj; exact hj); rw [hu]; rfl) _ hl]
      exact congrArg some hv
  · rw [size_SpanS] at hj
    by_cases hin : j < k * 2 ∨ k * 2 + M.length * 2 ≤ j
    · rw [World.cell?_setCells_out _ _ _ _ _ (fun _ _ => by show j < k * 2 ∨ k * 2 + (M.flatMap fS).length ≤ j; rw [hfl]; exact hin)]
      exact hF.there j (by rw [size_SpanS]; exact hj)
    · obtain ⟨p, rfl⟩ : ∃ p, j = k * 2 + p := ⟨j - k * 2, by omega⟩
      exact ⟨_, World.cell?_setCells_in g _ _ _ (fun j hj => by obtain ⟨u, hu⟩ := hthere j (by rw [hfl] at hj; exact hj); rw [hu]; rfl) p (by rw [hfl]; omega)⟩
  · exact below_setCells (Nat.le_refl _) _ _ _ hF.below
theorem flat_take {Ls : List (List D_Span)} {k : Nat} {M : List D_Span} (h : Ls[k]? = some M) : (Ls.take (k + 1)).flatten = (Ls.take k).flatten ++ M := by
  rw [List.take_add_one, h, Option.toList_some, List.flatten_append]; simp
theorem flat_pre {Ls : List (List D_Span)} (k : Nat) : ∃ r, Ls.flatten = (Ls.take k).flatten ++ r := ⟨(Ls.drop k).flatten, by rw [← List.flatten_append, List.take_append_drop]⟩
theorem flat_le {Ls : List (List D_Span)} (k : Nat) : (Ls.take k).flatten.length ≤ Ls.flatten.length := by
  obtain ⟨r, hr⟩ := flat_pre (Ls := Ls) k
  rw [hr, List.length_append]; omega
theorem flat_at {Ls : List (List D_Span)} {k : Nat} {M : List D_Span} (h : Ls[k]? = some M) : (Ls.take k).flatten.length + M.length ≤ Ls.flatten.length ∧ ∀ i x, M[i]? = some x → Ls.flatten[(Ls.take k).flatten.length + i]? = some x := by
  obtain ⟨r, hr⟩ := flat_pre (Ls := Ls) (k + 1)
  rw [flat_take h] at hr
  refine ⟨by rw [hr, List.length_append, List.length_append]; omega, fun i x hx => ?_⟩
  have hi := el_lt hx
  rw [hr, List.getElem?_append_left (by rw [List.length_append]; omega), List.getElem?_append_right (by omega), Nat.add_sub_cancel_left]
  exact hx
set_option maxRecDepth 100000 in
set_option maxHeartbeats 3200000 in
theorem books_impl {Ls : List (List D_Span)} {a : Option Addr} {cap : Nat} {W : World} (hT : Ls.flatten.length ≤ 1048576) (h : RdSl (Sl R_Span) W W.heap.size Ls a cap) :
    Calls Try.prog 54 #[.slice a Ls.length cap] W (NewS R_Span Ls.flatten W) := by
  have H := Lib.hid h
  have hn : Ls.length ≤ 9223372036854775807 := by have h1 := h.1; have h2 := h.2.1; unfold maxLen at h2; omega
  clear h
  obtain ⟨T, hTT⟩ : ∃ T, Ls.flatten.length = T := ⟨_, rfl⟩
  have HT := Lib.hid hTT
  rw [hTT] at hT
  clear hTT
  have hmk := make_SpanS T hT
  obtain ⟨w0, hw0⟩ : ∃ w, w = W.alloc (.cells (zs_SpanS T) 25) := ⟨_, rfl⟩
  have HF0 := Lib.hid (show Fil R_Span W w0 Ls.flatten W.heap.size noSf 0 from by rw [hw0]; exact Fil.new (by rw [zs_SpanS_size, HT.out]))
  go_enter Try.func54, Try.ntmps54
  go_wp2
  go_loopw [12, 3] (fun i v wr => ∃ k : Nat, k ≤ Ls.length ∧ i = .int .i64 k ∧ v = .int .i64 (((Ls.take k).flatten.length : Nat) : Int) ∧ wr = W) (fun i _ _ => Ls.length - (intOf i).toNat)
  case atStart => exact ⟨0, Nat.zero_le _, rfl, rfl, rfl⟩
  case round =>
    obtain ⟨k, hk, rfl, rfl, rfl⟩ := hrel
    by_cases hlt : k < Ls.length
    · obtain ⟨M, hM⟩ := el_some hlt
      have hfa := flat_at hM
      have hft := flat_take hM
      obtain ⟨g, o, us, rfl, hg, hu, hr⟩ := H.out.at_ hM
      obtain ⟨ba, bc, rfl, hMr⟩ := hr
      have e0 : wr.cell? ⟨g, o + k, none⟩ = some (.slice ba M.length bc) := by simpa [show (Sl R_Span).size = 1 from rfl] using hu 0 _ rfl
      have hi0 : (0 : Int) ≤ (k : Int) := Int.natCast_nonneg _
      have hi1 : (k : Int) < (Ls.length : Int) := by omega
      have hlen : (Ls.take (k + 1)).flatten.length = (Ls.take k).flatten.length + M.length := by rw [hft, List.length_append]
      have hle := hfa.1
      rw [HT.out] at hle
      obtain ⟨t0, ht0⟩ : ∃ t, (Ls.take k).flatten.length = t := ⟨_, rfl⟩
      rw [ht0] at hlen hle ⊢
      have HL := Lib.hid hlen
      have hwr : IntKind.i64.wrap ((t0 : Int) + (M.length : Int)) = ((t0 + M.length : Nat) : Int) := by rw [← Int.natCast_add]; exact IntWalk.i64_in _ (by omega)
      clear hfa hft hMr hu hM hlen ht0
      go_wp2
      go_roundw
      case rel => exact ⟨k + 1, by omega, by go_num, by rw [HL.out, Int.natCast_add], trivial⟩
      case measure => simp [intOf]; omega
    · have hdl : decide ((k : Int) < (Ls.length : Int)) = false := decide_eq_false (by omega)
      obtain rfl : k = Ls.length := by omega
      rw [List.take_length, HT.out]
      go_wp2
      rw [← hw0]
      have HB0 := Lib.hid (show Below wr.heap.size wr w0 from by rw [hw0]; exact (Below.refl _ _).alloc (Nat.le_refl _) _)
      clear hw0 hmk hdl hlt hk
      go_loopw [25, 7] (fun i v wq => ∃ k : Nat, k ≤ Ls.length ∧ i = .int .i64 k ∧ v = .int .i64 (((Ls.take k).flatten.length : Nat) : Int) ∧ Hid (Fil R_Span wr wq Ls.flatten wr.heap.size noSf (Ls.take k).flatten.length)) (fun i _ _ => Ls.length - (intOf i).toNat)
      case atStart => exact ⟨0, Nat.zero_le _, rfl, rfl, HF0⟩
      case round =>
        obtain ⟨k, hk, rfl, rfl, HF⟩ := hrel
        rename World => wq
        by_cases hlt : k < Ls.length
        · obtain ⟨M, hM⟩ := el_some hlt
          have hfa := flat_at hM
          have hft := flat_take hM
          have hB := HF.out.below
          obtain ⟨g, o, us, rfl, hg, hu, hr⟩ := H.out.at_ hM
          obtain ⟨ba, bc, rfl, hMr⟩ := hr
          have e0 : wq.cell? ⟨g, o + k, none⟩ = some (.slice ba M.length bc) := (hB.cell (p := ⟨g, o + k, none⟩) hg).trans (by simpa [show (Sl R_Span).size = 1 from rfl] using hu 0 _ rfl)
          have hi0 : (0 : Int) ≤ (k : Int) := Int.natCast_nonneg _
          have hi1 : (k : Int) < (Ls.length : Int) := by omega
          have hlen : (Ls.take (k + 1)).flatten.length = (Ls.take k).flatten.length + M.length := by rw [hft, List.length_append]
          have hle := hfa.1
          rw [HT.out] at hle
          obtain ⟨t0, ht0⟩ : ∃ t, (Ls.take k).flatten.length = t := ⟨_, rfl⟩
          obtain ⟨wn, hrun, hF2⟩ := copy_fil (ty := 3) (dp := if T = t0 then some ⟨wr.heap.size, 0, none⟩ else some ⟨wr.heap.size, t0 * 2, none⟩) (by have := HF.out; rw [ht0] at this; exact this) (by rw [← ht0]; exact hfa.1) (by rw [← ht0]; exact hfa.2) (fun h => by rw [HT.out] at h; rw [if_neg (by omega)]) (mv_rdB R_Span_ok hMr hB)
          rw [HT.out] at hrun
          have HF2 := Lib.hid hF2
          rw [ht0] at hlen ⊢
          have HL := Lib.hid hlen
          have hwr : IntKind.i64.wrap ((t0 : Int) + (M.length : Int)) = ((t0 + M.length : Nat) : Int) := by rw [← Int.natCast_add]; exact IntWalk.i64_in _ (by omega)
          have ht0' : (0 : Int) ≤ (t0 : Int) := Int.natCast_nonneg _
          have ht1 : (t0 : Int) ≤ (T : Int) := by omega
          clear hfa hft hMr hu hM hlen ht0 hB hF2
          by_cases hTt : T = t0
          · rw [if_pos hTt] at hrun
            subst hTt
            simp only [Nat.sub_self] at hrun
            go_wp2
            go_roundw
            case rel => exact ⟨k + 1, by omega, by go_num, by rw [HL.out, Int.natCast_add], by rw [HL.out]; exact HF2⟩
            case measure => simp [intOf]; omega
          · rw [if_neg hTt] at hrun
            go_wp2
            go_roundw
            case rel => exact ⟨k + 1, by omega, by go_num, by rw [HL.out, Int.natCast_add], by rw [HL.out]; exact HF2⟩
            case measure => simp [intOf]; omega
        · have hdl : decide ((k : Int) < (Ls.length : Int)) = false := decide_eq_false (by omega)
          obtain rfl : k = Ls.length := by omega
          have hF3 := HF.out
          rw [List.take_length] at hF3
          have hnw := hF3.news (by rw [HT.out]; unfold maxLen; omega)
          rw [HT.out] at hnw
          have HNW := Lib.hid hnw
          clear hF3 hnw
          go_wp2
          go_ret
          exact HNW.out
end Go.Proofs.Ytfciojkibklkfaa.RepC
