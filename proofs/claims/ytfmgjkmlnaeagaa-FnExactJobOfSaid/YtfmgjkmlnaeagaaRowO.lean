/- Rows that a call made for itself, as lists of cells: general in the program. -/
import Derived.Test.YtfmgjkmlnaeagaaRows
import Derived.WalkKit
import Derived.ProofKit
import Derived.Below
import Derived.OwnWalk
import Derived.Maps.AppendAt
import Derived.Laws.Append
import Derived.Deep.AppendLies
namespace Go.Proofs.Ytfmgjkmlnaeagaa.RowC
open Go.RowKit

def cl (c : Nat → Value) (m : Nat) : List Value := (List.range m).map c
theorem cl_len (c : Nat → Value) (m : Nat) : (cl c m).length = m := by simp [cl]
theorem cl_at (c : Nat → Value) {m j : Nat} (h : j < m) : (cl c m)[j]? = some (c j) := by simp [cl, h]
theorem cl_get {c : Nat → Value} {m j : Nat} {u : Value} (h : (cl c m)[j]? = some u) : j < m ∧ u = c j := by
  have hj : j < m := by
    rcases Nat.lt_or_ge j m with h1 | h1
    · exact h1
    · rw [List.getElem?_eq_none (by rw [cl_len]; exact h1)] at h; cases h
  rw [cl_at c hj] at h
  exact ⟨hj, by injection h with h; exact h.symm⟩
theorem cl_congr {c d : Nat → Value} {m : Nat} (h : ∀ j, j < m → c j = d j) : cl c m = cl d m := by
  unfold cl
  exact List.map_congr_left fun j hj => h j (by simpa using hj)
theorem cl_append (c d : Nat → Value) (m k : Nat) : cl c m ++ cl d k = cl (fun j => if j < m then c j else d (j - m)) (m + k) := by
  apply List.ext_getElem?
  intro i
  by_cases h : i < m
  · rw [List.getElem?_append_left (by rw [cl_len]; exact h), cl_at c h, cl_at _ (by omega), if_pos h]
  · rw [List.getElem?_append_right (by rw [cl_len]; omega), cl_len]
    by_cases h2 : i < m + k
    · rw [cl_at d (by omega), cl_at _ h2, if_neg h]
    · rw [List.getElem?_eq_none (by rw [cl_len]; omega), List.getElem?_eq_none (by rw [cl_len]; omega)]
theorem cl_mem {c : Nat → Value} {m : Nat} {u : Value} (h : u ∈ cl c m) : ∃ j, j < m ∧ u = c j := by
  obtain ⟨j, hj, rfl⟩ := List.mem_map.1 h
  exact ⟨j, by simpa using hj, rfl⟩

/-- A row of n elements of 'size' cells each that the call owns; cell j holds c j. -/
def RowO (W : World) (lo : Nat) (T : TypeId) (size : Nat) (v : Value) (n : Nat) (c : Nat → Value) : Prop := W.ownsRow lo T size v n (cl c (n * size))
section
variable {W W' : World} {lo : Nat} {T : TypeId} {size : Nat} {v : Value} {n : Nat} {c : Nat → Value}
theorem RowO.form (h : RowO W lo T size v n c) (hn : 0 < n) : ∃ g cap, v = .slice (some ⟨g, 0, none⟩) n cap ∧ lo ≤ g ∧ g < W.heap.size ∧ n ≤ cap ∧ (∀ j, j < n * size → W.cell? ⟨g, j, none⟩ = some (c j)) ∧ (∀ j, W.frozen? ⟨g, j, none⟩ = false) := by
  obtain ⟨g, cap, rfl, hb, hlt⟩ := World.ownsRow.form h hn
  have hc := World.ownsRow.cells h (g := g) rfl
  rcases h.2 with ⟨_, h0⟩ | ⟨g', cap', cur, hv, _, hh, hnc, _⟩
  · omega
  · injection hv with hv1 hv2 hv3
    injection hv1 with hv1
    injection hv1 with hv1
    subst hv1
    subst hv3
    refine ⟨g, cap, rfl, hb, hlt, hnc, fun j hj => ?_, fun j => by simp [World.frozen?, hh]⟩
    have hadd : (⟨g, 0, none⟩ : Addr).add j = ⟨g, j, none⟩ := by unfold Addr.add; split <;> simp_all
    rw [← hadd]
    exact hc j _ (cl_at c hj)
theorem RowO.isSlice (h : RowO W lo T size v n c) : ∃ a cap, v = .slice a n cap := by
  rcases h.2 with ⟨rfl, rfl⟩ | ⟨g', cap', cur, rfl, _⟩
  · exact ⟨_, _, rfl⟩
  · exact ⟨_, _, rfl⟩
theorem RowO.own (h : RowO W lo T size v n c) : ∀ k, v.ownBlock = some k → lo ≤ k ∧ k < W.heap.size := World.ownsRow.lt h
theorem RowO.keep (h : RowO W lo T size v n c) (hb : ∀ k, v.ownBlock = some k → W'.heap[k]? = W.heap[k]?) : RowO W' lo T size v n c := by
  refine ⟨h.1, ?_⟩
  rcases h.2 with hn | ⟨g, cap, cur, rfl, hg, hgg, rest⟩
  · exact .inl hn
  · exact .inr ⟨g, cap, cur, rfl, hg, (hb g rfl).trans hgg, rest⟩
theorem RowO.below (h : RowO W lo T size v n c) (hb : Below W.heap.size W W') : RowO W' lo T size v n c := h.keep fun k hk => hb.block k (h.own k hk).2
theorem RowO.drew (h : RowO W lo T size v n c) : RowO W.drew lo T size v n c := h
theorem RowO.alloc (h : RowO W lo T size v n c) (o : Obj) : RowO (W.alloc o) lo T size v n c := World.ownsRow.alloc h o
theorem RowO.grown {row : Option Nat} (h : RowO W lo T size v n c) (hg : W.grownBy W' row) (hne : v.ownBlock = none ∨ v.ownBlock ≠ row) : RowO W' lo T size v n c := World.ownsRow.kept h hg hne
theorem RowO.lower {lo' : Nat} (h : RowO W lo T size v n c) (hl : lo' ≤ lo) : RowO W lo' T size v n c := by
  refine ⟨h.1, ?_⟩
  rcases h.2 with hn | ⟨g, cap, cur, rfl, hg, rest⟩
  · exact .inl hn
  · exact .inr ⟨g, cap, cur, rfl, Nat.le_trans hl hg, rest⟩
theorem RowO.congr {d : Nat → Value} (h : RowO W lo T size v n c) (hc : ∀ j, j < n * size → c j = d j) : RowO W lo T size v n d := by
  unfold RowO at h ⊢
  rw [← cl_congr hc]
  exact h
theorem RowO.nil (W : World) (lo : Nat) (T : TypeId) (size : Nat) (c : Nat → Value) : RowO W lo T size (.slice none 0 0) 0 c := ⟨by simp [cl], .inl ⟨rfl, rfl⟩⟩
theorem RowO.made0 (W : World) (lo : Nat) (T : TypeId) (size : Nat) (c : Nat → Value) (hl : lo ≤ W.heap.size) : RowO (W.alloc (.cells #[] T)) lo T size (.slice (some ⟨W.heap.size, 0, none⟩) 0 0) 0 c := by
  have h := World.ownsRow_made (e := T) (size := size) W #[] 0 hl (Nat.zero_le _) (by simp)
  unfold RowO
  simpa [cl] using h
/-- the cells of a source at ⟨g, o⟩ -/
theorem src_of {g o m : Nat} {c : Nat → Value} (h : ∀ j, j < m → W.cell? ⟨g, o + j, none⟩ = some (c j)) : ∀ j u, (cl c m)[j]? = some u → W.cell? ((⟨g, o, none⟩ : Addr).add j) = some u := by
  intro j u hu
  obtain ⟨hj, rfl⟩ := cl_get hu
  have hadd : (⟨g, o, none⟩ : Addr).add j = ⟨g, o + j, none⟩ := by unfold Addr.add; split <;> simp_all
  rw [hadd]
  exact h j hj
end

section
variable {P : Program}
/-- append of m elements that lie at ⟨g, o⟩ to a row of the call's own. -/
theorem run_app (W : World) (lo : Nat) (t ty T : TypeId) (i : TypeInfo) (z : Value) (size bytes : Nat) (ht : P.underlying t = some (.slice T)) (hi : P.info? T = some i) (hz : i.zero = some z)
    (hsize : i.size = size) (hby : i.bytes = bytes) (hzs : z.cells.size = size) (hsz : 0 < size)
    (v : Value) (n : Nat) (c : Nat → Value) (hown : RowO W lo T size v n c) (g o m k : Nat) (d : Nat → Value) (hd : ∀ j, j < m * size → W.cell? ⟨g, o + j, none⟩ = some (d j)) (h1 : ∀ j, j < m * size → (d j).oneCell' = true)
    (h63 : n + m ≤ maxLen) (hbytes : (n + m) * bytes ≤ 140737488355328) (hl : lo ≤ W.heap.size) :
    ∃ v' W', (Builtin.append_ #[t, t] ty #[v, .slice (some ⟨g, o, none⟩) m k]).run P W = .ok v' W' ∧ RowO W' lo T size v' (n + m) (fun j => if j < n * size then c j else d (j - n * size)) ∧ Below lo W W' ∧ W.grownBy W' v.ownBlock ∧
      (v'.ownBlock = v.ownBlock ∨ v'.ownBlock = some W.heap.size) := by
  obtain ⟨v', W', hr, h2, h3, _, h5⟩ := run_append_own_at (P := P) W lo t ty T i z size bytes ht hi hz hsize hby hzs hsz v n _ hown ⟨g, o, none⟩ m k (cl d (m * size)) (cl_len _ _) (src_of hd)
    (fun u hu => by obtain ⟨j, hj, rfl⟩ := cl_mem hu; exact h1 j hj) h63 hbytes hl
  refine ⟨v', W', hr, ?_, (Below.refl lo W).grown h3 hl (fun k hk => (hown.own k hk).1), h3, h5⟩
  rw [cl_append] at h2
  unfold RowO
  rw [Nat.add_mul]
  exact h2
/-- append of m elements, at least one, to a slice that came in and is full. -/
theorem run_app_full (W : World) (t ty T : TypeId) (i : TypeInfo) (z : Value) (size bytes : Nat) (ht : P.underlying t = some (.slice T)) (hi : P.info? T = some i) (hz : i.zero = some z)
    (hsize : i.size = size) (hby : i.bytes = bytes) (hzs : z.cells.size = size)
    (b q n : Nat) (c : Nat → Value) (hc : ∀ j, j < n * size → W.cell? ⟨b, q + j, none⟩ = some (c j)) (g o m k : Nat) (d : Nat → Value) (hd : ∀ j, j < m * size → W.cell? ⟨g, o + j, none⟩ = some (d j))
    (hm : 0 < m) (h63 : n + m ≤ maxLen) (hbytes : (n + m) * bytes ≤ 140737488355328) :
    ∃ v' W', (Builtin.append_ #[t, t] ty #[.slice (some ⟨b, q, none⟩) n n, .slice (some ⟨g, o, none⟩) m k]).run P W = .ok v' W' ∧ RowO W' W.heap.size T size v' (n + m) (fun j => if j < n * size then c j else d (j - n * size)) ∧ Below W.heap.size W W' ∧
      v'.ownBlock = some W.heap.size := by
  subst hsize
  subst hby
  have hsmall : n + m ≤ 9223372036854775807 := by simp only [maxLen] at h63; omega
  have hr := run_append_grow (P := P) W t ty T i z ht hi hz ⟨b, q, none⟩ n n (cl c (n * i.size)) (cl_len _ _) (src_of hc) ⟨g, o, none⟩ m k (cl d (m * i.size)) (cl_len _ _) (src_of hd) (by omega) (by omega) (growslice_fits (by omega) hbytes)
  refine ⟨_, _, hr, ?_, ((Below.refl _ _).drew).alloc (Nat.le_refl _) _, rfl⟩
  have hge := grownCap_ge W (n + m) n T
  have hcm : grownCap W (n + m) n T ≤ maxLen := grownCap_le_maxLen W (n + m) n T h63
  have hlen : (cl c (n * i.size) ++ cl d (m * i.size)).length = (n + m) * i.size := by rw [List.length_append, cl_len, cl_len, Nat.add_mul]
  unfold RowO
  rw [Nat.add_mul, ← cl_append]
  refine ⟨hlen, .inr ⟨W.heap.size, _, _, rfl, Nat.le_refl _, heap_alloc_new W.drew _, hge, hcm, ?_, ?_⟩⟩
  · simp only [Array.size_append, List.size_toArray, size_zeroCells, hzs, cl_len, ← Nat.add_mul]
    congr 1
    omega
  · simp only [Array.toList_append, List.append_assoc]
    rw [← List.append_assoc, ← hlen]
    exact List.take_left
end

section
variable {P : Program}
/-- A builtin append whose run is known, at a plain list of operations. -/
theorem wpList_app {ops : Array Oper} {rest : List Oper} {o : Oper} {a : Act} {W : World} {Q : Exit → Act → World → Prop} (hgd : o.guard = none) (s x : Operand) (t : TypeId)
    (ho : o.op = .call { callee := .builtin .append, args := #[s, x], argTypes := #[t, t] }) {v y : Value} (hs : a.eval s = v) (hx : a.eval x = y)
    {v' : Value} {W' : World} (hr : (Builtin.append_ #[t, t] o.type #[v, y]).run P W = .ok v' W') (h : wpList P ops Q rest (a.put o.dst v') W') : wpList P ops Q (o :: rest) a W := by
  refine wpList_plain hgd fun K hK => ?_
  unfold Oper.wp execOp
  simp only [ho, resolve, invoke, builtin, Sem.run_bind, Sem.run_pure, Result.andThen_ok, List.map_toArray, List.map_cons, List.map_nil, hs, hx, hr]
  exact hK _ _ h
/-- the same at a step of a region that draws its order -/
theorem step_app {ops : Array Oper} {o : Oper} {a : Act} {W : World} {K : Act → World → Prop} {Q : Exit → Act → World → Prop} {E : Prop} (hgd : o.guard = none) (s x : Operand) (t : TypeId)
    (ho : o.op = .call { callee := .builtin .append, args := #[s, x], argTypes := #[t, t] }) {v y : Value} (hs : a.eval s = v) (hx : a.eval x = y)
    {v' : Value} {W' : World} (hr : (Builtin.append_ #[t, t] o.type #[v, y]).run P W = .ok v' W') (h : K (a.put o.dst v') W') :
    if Region.wanted o (yielded ops a.tmps) = true then Oper.wp P o a W K Q else E := by
  have hw : Region.wanted o (yielded ops a.tmps) = true := by simp [Region.wanted, hgd]
  rw [if_pos hw]
  unfold Oper.wp execOp
  simp only [ho, resolve, invoke, builtin, Sem.run_bind, Sem.run_pure, Result.andThen_ok, List.map_toArray, List.map_cons, List.map_nil, hs, hx, hr]
  exact h
end
end Go.Proofs.Ytfmgjkmlnaeagaa.RowC
