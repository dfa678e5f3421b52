/- The accounts of a map in order: a contract. -/
import Derived.Test.YtjhcphmehlihcaaAccNil
import Derived.Test.YtjhcphmehlihcaaRep3
namespace Go.Proofs.Ytjhcphmehlihcaa.RepC
open Go.RowKit RowC ValC SpanC KeptC NameC SortC Go.ChangeShapes Go.Maps Go.Sort
set_option linter.unusedVariables false
set_option linter.unusedSimpArgs false

def R_Acc : Rp AC := Pr R_Label St
theorem R_Acc_ok : Ok R_Acc := Pr_ok R_Label_ok St_ok
theorem rd_Acc {W : World} {B : Nat} {l s : Int} {o : ByteArray} {cs : List Value} (h : R_Acc.rd W B ((l, s), o) cs) : cs = [.int .i64 l, .int .i64 s, .string o] ∧ o.size ≤ maxLen := by
  obtain ⟨u1, v1, rfl, h1, h2, hb⟩ := h
  obtain rfl := rd_Label h1
  subst h2
  exact ⟨rfl, hb⟩
theorem mkrd_Acc {W : World} {B : Nat} {x : AC} (h : WfA x) : R_Acc.rd W B x (encA x) := ⟨[.int .i64 x.1.1, .int .i64 x.1.2], [.string x.2], rfl, mkrd_Label, rfl, h.2.2⟩
theorem flat_get : ∀ (xs : List AC) (i j : Nat) (x : AC) (c : Value), xs[i]? = some x → (encA x)[j]? = some c → (xs.flatMap encA)[i * 3 + j]? = some c
  | [], i, j, x, c, h, _ => by simp at h
  | y :: ys, 0, j, x, c, h, hc => by
    simp at h
    subst h
    rw [List.flatMap_cons, Nat.zero_mul, Nat.zero_add, List.getElem?_append_left (List.getElem?_eq_some_iff.1 hc).1]
    exact hc
  | y :: ys, i + 1, j, x, c, h, hc => by
    have h1 := flat_get ys i j x c (by simpa using h) hc
    have hl : (encA y).length = 3 := rfl
    rw [List.flatMap_cons, List.getElem?_append_right (by omega), hl, show (i + 1) * 3 + j - 3 = i * 3 + j by omega]
    exact h1
/-- the accounts of a map, in order, in a slice of the call's own -/
def OrdR (F : AC → Option Int) (m : Nat) (w : World) (e : Ending) (w' : World) : Prop := ∃ xs a c, e = .returned (.slice a xs.length c) ∧ (AllOf F xs ∧ xs.Pairwise ltA ∧ xs.length ≤ m) ∧ RdSl R_Acc w' w'.heap.size xs a c ∧ Below w.heap.size w w'
theorem ordR_elim {F : AC → Option Int} {m : Nat} {w : World} {e : Ending} {w' : World} (h : OrdR F m w e w') : ∃ xs a c, e = .returned (.slice a xs.length c) ∧ (AllOf F xs ∧ xs.Pairwise ltA ∧ xs.length ≤ m) ∧ RdSl R_Acc w' w'.heap.size xs a c ∧ Below w.heap.size w w' := h
theorem accRow_elim {F : AC → Option Int} {m : Nat} {w : World} {e : Ending} {w' : World} (h : AccRow m F w e w') : ∃ v xs, e = .returned v ∧ AllOf F xs ∧ xs.length ≤ m ∧ w'.ownsRow w.heap.size 65 3 v xs.length (xs.flatMap encA) ∧ Below w.heap.size w w' := h
set_option maxRecDepth 100000 in
theorem collectA (Bm b nn : Nat) (hnn : nn ≤ 1000) (D : DataW Value) (F : AC → Option Int) (w : World) (hBm : Bm < w.heap.size) (hm : w.cell? ⟨Bm, 0, none⟩ = some (.map (some b))) (hM : MpU w b nn D F) :
    Calls Try.prog 76 #[.func (.func 78) #[] #[.pointer (some ⟨Bm, 0, none⟩)]] w (AccRow nn F w) := by
  have HC := Lib.hid (appendA Bm b nn hnn D F w hBm hm hM)
  clear hM hm
  go_enter Try.func76, Try.ntmps76
  go_wp2_with fail
  refine HC.out.mono ?_
  intro e w1 h
  obtain ⟨v, xs, rfl, h1, h2, h3, h4⟩ := accRow_elim h
  have HQ := Lib.hid (show AccRow nn F w (.returned v) w1 from ⟨v, xs, rfl, h1, h2, h3, h4⟩)
  clear h h1 h2 h3 h4
  go_wp2
  go_ret
  exact HQ.out
theorem perm_all {F : AC → Option Int} {xs ys : List AC} (h : AllOf F xs) (hp : ys.Perm xs) : AllOf F ys :=
  ⟨hp.nodup_iff.2 h.1, fun a ha => h.2.1 a (hp.mem_iff.1 ha), fun a ha => by rw [hp.mem_iff]; exact h.2.2 a ha⟩
theorem sorted_pairwise {d : Array AC} (hnd : d.toList.Nodup) (hs : SortedIn (ltOf cfA) 0 d.size d) : d.toList.Pairwise ltA := by
  rw [List.pairwise_iff_getElem]
  intro i j hi hj hij
  have hi' : i < d.size := by simpa using hi
  have hj' : j < d.size := by simpa using hj
  have h1 := hs i j (Nat.zero_le _) hij hj'
  rw [getElem!_pos d j hj', getElem!_pos d i hi'] at h1
  have h2 : ¬ ltA d[j] d[i] := fun h => by rw [(ltOfA _ _).2 h] at h1; cases h1
  have h3 : d[i] ≠ d[j] := fun e => by
    have := (List.nodup_iff_pairwise_ne.1 hnd)
    rw [List.pairwise_iff_getElem] at this
    exact this i j hi hj hij (by simpa using e)
  have h4 : ltA d[i] d[j] := Classical.byContradiction fun h => h3 (ltA_tri h h2)
  simpa using h4
theorem offA_sort {g n : Nat} {d' : Array AC} {os : Array Obj} {w : World} : Off (fun k => k = g) w (Go.Proofs.sortWorldK encA 3 w g 0 n d' os) := by
  unfold Go.Proofs.sortWorldK Go.Sort.putRowK
  refine ⟨rfl, rfl, rfl, by simp, fun k hk hkg => ?_⟩
  rw [heap_grow_old _ _ (by simpa using hk)]
  show (Array.modify _ _ _)[k]? = _
  rw [Array.getElem?_modify, if_neg (fun e => hkg e.symm)]
  rfl
theorem cellsA_holds {W : World} {g : Nat} {d : Array AC} (h : HoldsK encA 3 W g 0 d) {j : Nat} {x : AC} (hx : d.toList[j]? = some x) : CellsAt W g (j * 3) (encA x) := by
  have hj : j < d.size := by have := (List.getElem?_eq_some_iff.1 hx).1; simpa using this
  have e : d[j]! = x := by
    rw [getElem!_pos d j hj]
    have := (List.getElem?_eq_some_iff.1 hx).2
    simpa using this
  have h0 := (h.cell (i := j) (c := 0) hj (by omega)).1
  have h1 := (h.cell (i := j) (c := 1) hj (by omega)).1
  have h2 := (h.cell (i := j) (c := 2) hj (by omega)).1
  simp only [Nat.zero_add, Nat.add_zero] at h0 h1 h2
  rw [e] at h0 h1 h2
  exact CellsAt.cons.2 ⟨h0, CellsAt.cons.2 ⟨h1, CellsAt.cons.2 ⟨h2, CellsAt.nil⟩⟩⟩
theorem holds_rowA {W : World} {lo n cap g : Nat} {cur : Array Value} {xs : List AC} (hg : W.heap[g]? = some (.cells cur 65 (0, 0))) (ht : cur.toList.take (xs.length * 3) = xs.flatMap encA) : HoldsK encA 3 W g 0 xs.toArray := fun t ht' => by
  have ht2 : t < xs.toArray.size * 3 := by simpa using ht'
  rw [get_flatK _ _ _ _ ht2, Nat.zero_add]
  refine ⟨?_, by simp [World.frozen?, hg]⟩
  have hsz : t / 3 < xs.length := by have : xs.toArray.size = xs.length := by simp
                                     omega
  have hx : xs[t / 3]? = some xs[t / 3] := List.getElem?_eq_getElem hsz
  have ev : xs.toArray[t / 3]! = xs[t / 3] := by rw [getElem!_pos xs.toArray (t / 3) (by simpa using hsz)]; simp
  have hm : t % 3 = 0 ∨ t % 3 = 1 ∨ t % 3 = 2 := by omega
  have key : ∀ c, (encA xs[t / 3])[t % 3]? = some c → W.cell? ⟨g, t, none⟩ = some c := fun c hc => by
    have h1 := flat_get xs (t / 3) (t % 3) _ c hx hc
    rw [← ht, show t / 3 * 3 + t % 3 = t by omega] at h1
    rw [List.getElem?_take] at h1
    split at h1
    · exact (cell_of_row W g t cur _ _ hg).trans (by simpa using h1)
    · cases h1
  rw [ev]
  rcases hm with e | e | e <;> rw [e] at key ⊢ <;> exact key _ rfl
set_option maxRecDepth 100000 in
set_option maxHeartbeats 1600000 in
theorem sortedA (Bm b nn : Nat) (hnn : nn ≤ 1000) (D : DataW Value) (F : AC → Option Int) (w : World) (hBm : Bm < w.heap.size) (hm : w.cell? ⟨Bm, 0, none⟩ = some (.map (some b))) (hM : MpU w b nn D F) :
    Calls Try.prog 70 #[.func (.func 78) #[] #[.pointer (some ⟨Bm, 0, none⟩)], .func (.func 49) #[] #[]] w (OrdR F nn w) := by
  have HC := Lib.hid (collectA Bm b nn hnn D F w hBm hm hM)
  clear hM hm
  go_enter Try.func70, Try.ntmps70
  go_wp2_with fail
  refine HC.out.mono ?_
  intro e w1 h
  obtain ⟨v, xs, rfl, hall, hlen, ⟨hx, hrow⟩, hb⟩ := accRow_elim h
  have HALL := Lib.hid hall
  have HB := Lib.hid hb
  clear h hall hb
  rcases hrow with ⟨rfl, h0⟩ | ⟨g, cap, cur, rfl, hlo, hg, hn, hcm, hcs, ht⟩
  · have HX := Lib.hid (List.eq_nil_of_length_eq_zero h0)
    have HR := Lib.hid (show RdSl R_Acc w1 w1.heap.size xs none 0 from by rw [HX.out]; exact ⟨Nat.le_refl _, Nat.zero_le _, fun h => absurd h (Nat.lt_irrefl _)⟩)
    have HL := Lib.hid h0
    clear hx h0
    go_wp2_with (go_at_call 77; refine (sort_nil _).mono ?_; rintro e w' ⟨rfl, rfl⟩)
    go_ret
    exact ⟨xs, none, 0, by rw [HL.out]; rfl, ⟨HALL.out, by rw [HX.out]; exact List.Pairwise.nil, hlen⟩, HR.out, HB.out⟩
  · have hgl : g < w1.heap.size := (Array.getElem?_eq_some_iff.1 hg).1
    have HH := Lib.hid (holds_rowA (lo := 0) (n := 0) (cap := 0) hg ht)
    have HC2 := Lib.hid (And.intro hn hcm)
    have HLN := Lib.hid hlen
    clear hx hg ht hcs hn hcm
    go_wp2_with fail
    have hs := SortC.sort_accs g 0 cap xs.toArray w1 HH.out hgl (by simp; omega)
    simp only [List.size_toArray] at hs
    refine hs.mono ?_
    rintro e w2 ⟨rfl, d', n, os, hp, hso, rfl⟩
    have hoff := offA_sort (g := g) (n := n) (d' := d') (os := os) (w := w1)
    have hds : d'.size = xs.length := by simpa using hp.1
    have hH2 : HoldsK encA 3 (Go.Proofs.sortWorldK encA 3 w1 g 0 n d' os) g 0 d' := by
      unfold Go.Proofs.sortWorldK
      exact holdsK_grow encA 3 _ _ g 0 d' (by simpa [Go.Sort.putRowK] using hgl) (holdsK_putRowK encA 3 _ g 0 xs.toArray d' (holdsK_ahead encA 3 w1 n g 0 xs.toArray HH.out) (by simpa using hds))
    have hperm : d'.toList.Perm xs := by
      have h3 := hp.2.2
      have e1 : d'.extract 0 xs.toArray.size = d' := by rw [← hp.1]; simp
      have e2 : xs.toArray.extract 0 xs.toArray.size = xs.toArray := by simp
      rw [List.size_toArray] at e1 e2
      rw [e1, e2] at h3
      simpa using h3
    have HA := Lib.hid (perm_all HALL.out hperm)
    have HSo := Lib.hid (sorted_pairwise HA.out.1 (by rw [hds]; exact hso))
    have HB2 := Lib.hid (HB.out.trans (hoff.below HB.out.size (fun k hk => by rw [hk]; exact hlo)))
    have hz := hoff.size
    have HR := Lib.hid (show RdSl R_Acc (Go.Proofs.sortWorldK encA 3 w1 g 0 n d' os) (Go.Proofs.sortWorldK encA 3 w1 g 0 n d' os).heap.size d'.toList (some ⟨g, 0, none⟩) cap from
      ⟨by rw [Array.length_toList, hds]; exact HC2.out.1, HC2.out.2, fun _ => ⟨g, 0, rfl, Nat.lt_of_lt_of_le hgl hz, fun i x hx => ⟨encA x, by simpa [show R_Acc.size = 3 from rfl] using cellsA_holds hH2 hx, mkrd_Acc (HA.out.2.1 x (List.mem_of_getElem? hx))⟩⟩⟩)
    have HDS := Lib.hid (show d'.toList.length = xs.length from by rw [Array.length_toList, hds])
    obtain ⟨w2, hw2⟩ : ∃ w, w = Go.Proofs.sortWorldK encA 3 w1 g 0 n d' os := ⟨_, rfl⟩
    rw [← hw2] at HR HB2 hz ⊢
    clear hs hp hso hH2 hoff hw2 hperm hds
    go_wp2
    go_ret
    exact ⟨d'.toList, some ⟨g, 0, none⟩, cap, by rw [HDS.out]; rfl, ⟨HA.out, HSo.out, by rw [HDS.out]; exact HLN.out⟩, HR.out, HB2.out⟩
set_option maxRecDepth 100000 in
theorem order_impl (b nn : Nat) (hnn : nn ≤ 1000) (D : DataW Value) (F : AC → Option Int) (w : World) (hM : MpU w b nn D F) :
    Calls Try.prog 51 #[.map (some b)] w (OrdR F nn w) := by
  obtain ⟨w1, hw1⟩ : ∃ w1, w1 = w.alloc (.cells #[.map (some b)] 62) := ⟨_, rfl⟩
  have hbA : Below w.heap.size w w1 := by rw [hw1]; exact (Below.refl _ _).alloc (Nat.le_refl _) _
  have HB := Lib.hid hbA
  have hcell : w1.cell? ⟨w.heap.size, 0, none⟩ = some (.map (some b)) := by rw [hw1]; exact (Blk.new w _ _).at_ 0 rfl
  have hlt : w.heap.size < w1.heap.size := by rw [hw1]; simp
  have HC := Lib.hid (sortedA w.heap.size b nn hnn D F w1 hlt hcell (hM.call hbA))
  have hk := keysA b w
  rw [← hw1] at hk
  clear hw1 hM hcell hbA
  go_enter Try.func51, Try.ntmps51
  go_wp2_with fail
  refine hk.mono ?_
  rintro e w2 ⟨rfl, rfl⟩
  go_wp2_with fail
  refine HC.out.mono ?_
  intro e w3 h
  obtain ⟨xs, a, c, rfl, h1, h2, h3⟩ := ordR_elim h
  have HQ := Lib.hid (And.intro h1 h2)
  have HB3 := Lib.hid (HB.out.trans (h3.mono (Nat.le_of_lt hlt)))
  clear h h1 h2 h3
  go_wp2
  go_ret
  exact ⟨xs, a, c, rfl, HQ.out.1, HQ.out.2, HB3.out⟩
end Go.Proofs.Ytjhcphmehlihcaa.RepC
