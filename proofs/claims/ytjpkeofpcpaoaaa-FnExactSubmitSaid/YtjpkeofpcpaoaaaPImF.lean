/- PoolNew of the program: a contract. -/
import Derived.Test.YtjpkeofpcpaoaaaPImE
namespace Go.Proofs.Ytjpkeofpcpaoaaa.RepC
open Go.RowKit RowC ValC SpanC KeptC
set_option linter.unusedVariables false
set_option linter.unusedSimpArgs false

theorem poolR_nil (C : List (List D_Label)) : PoolR C [] 0 ↔ ClearR C :=
  ⟨fun h => h.1, fun h => ⟨h, ⟨Nat.zero_le _, fun j hj => absurd hj (Nat.not_lt_zero _)⟩, rfl, fun i d hd => by simp at hd, by simp [usedL]⟩⟩
theorem new_work {C : List (List D_Label)} {lo g : Nat} {w : World} (h : WP C [] 0 lo g w) : Calls Try.prog 110 #[.pointer (some ⟨g, 0, none⟩)] w (WorkO (C, [], 0, 0, 0) lo g w) := by
  have H := Lib.hid h
  clear h
  go_enter Try.func110, Try.ntmps110
  go_wp2
  go_ret
  exact ⟨Or.inl ⟨rfl, rfl, H.out⟩, Below.refl _ _⟩
/-- what lies in a box of its own is answered -/
theorem poolG_box {d : OutD} {w w1 w2 : World} {B : Nat} {ca ja : Option Addr} {cc jc : Nat} {T1 T2 : Nat → Prop} (h1 : ∀ k, T1 k → Rg B w1.heap.size k) (h2 : ∀ k, T2 k → Rg B w1.heap.size k) (hd : ∀ k, T1 k → ¬ T2 k) (o1 : OwSl (Sl R_Label) w1 T1 d.1 ca cc) (o2 : OwSl R_Job w1 T2 d.2.1 ja jc) {b : Nat} (hb : b < B) (hB : w.heap.size ≤ B) (ho : Off (fun x => x = b) w1 w2) (hw : Below w.heap.size w w2) :
    PoolG d w (.returned (.agg #[.slice ca d.1.length cc, .slice ja d.2.1.length jc, .int .i64 d.2.2.1, .int .i64 d.2.2.2.1, .int .i64 d.2.2.2.2])) w2 :=
  ⟨ca, cc, ja, jc, T1, T2, rfl, fun k hk => ⟨Nat.le_trans hB (h1 k hk).1, Nat.lt_of_lt_of_le (h1 k hk).2 ho.size⟩, fun k hk => ⟨Nat.le_trans hB (h2 k hk).1, Nat.lt_of_lt_of_le (h2 k hk).2 ho.size⟩, hd, o1.keep (Sl_ok R_Label_ok) (fun k hk => ho.block k (h1 k hk).2 (by have := (h1 k hk).1; omega)), o2.keep R_Job_ok (fun k hk => ho.block k (h2 k hk).2 (by have := (h2 k hk).1; omega)), hw⟩

set_option maxRecDepth 100000 in
set_option maxHeartbeats 3200000 in
theorem poolnew_impl {C : List (List D_Label)} {a : Option Addr} {cap : Nat} {W : World} (h : RdSl (Sl R_Label) W W.heap.size C a cap) :
    Calls Try.prog 45 #[.slice a C.length cap] W (PoolG (newD C) W) := by
  have hcf : ∀ (args : Array Value) (w : World), (callFunc 110 args).run Try.prog w = .ok (.enter 110 args) w := fun _ _ => rfl
  have hn : C.length ≤ 9223372036854775807 := by have h1 := h.1; have h2 := h.2.1; unfold maxLen at h2; omega
  have HA := Lib.hid (show Below W.heap.size W (W.alloc (.cells #[.slice none 0 0, .slice none 0 0, .int .i64 0, .int .i64 0, .int .i64 0] 71)) from (Below.refl _ _).alloc (Nat.le_refl _) _)
  have H := Lib.hid (rd_mv (Sl_ok R_Label_ok) h HA.out)
  have HR := Lib.hid (Blk.new W 71 #[.slice none 0 0, .slice none 0 0, .int .i64 0, .int .i64 0, .int .i64 0])
  clear h
  by_cases h4 : 400 < C.length
  · have hd : decide ((400 : Int) < (C.length : Int)) = true := decide_eq_true (by omega)
    rw [newD_size h4]
    have r0 := HR.out.at_ 0 rfl
    have f0 := HR.out.soft 0
    have r1 := HR.out.at_ 1 rfl
    have f1 := HR.out.soft 1
    have r2 := HR.out.at_ 2 rfl
    have f2 := HR.out.soft 2
    have r3 := HR.out.at_ 3 rfl
    have f3 := HR.out.soft 3
    have r4 := HR.out.at_ 4 rfl
    have f4 := HR.out.soft 4
    go_enter Try.func45, Try.ntmps45
    go_wp2
    refine bodyPost_ret (v := .agg #[.slice none 0 0, .slice none 0 0, .int .i64 0, .int .i64 0, .int .i64 2]) (by simp [results, Try.results45, go_sem, *]) rfl ?_
    exact poolG_ill 2 ((Below.refl _ _).alloc (Nat.le_refl _) _)
  · have hd : decide ((400 : Int) < (C.length : Int)) = false := decide_eq_false (by omega)
    go_enter Try.func45, Try.ntmps45
    go_wp2_with fail
    refine (attempt_spec (L := []) (now := 0) (ja := none) (jc := 0) H.out (rd_none _ _ _) (f := 110) (caps := #[]) (r := newD C) hcf (fun hp => newD_form h4 (fun hc => hp ((poolR_nil C).2 hc))) (fun hp w lo g _ _ hwp => by rw [newD_ok h4 ((poolR_nil C).1 hp)]; exact new_work hwp)).mono ?_
    intro e w1 h
    obtain ⟨ca, cc, ja, jc, T1, T2, rfl, h1, h2, hdj, o1, o2, hb⟩ := poolG_elim h
    have HR1 := Lib.hid (HR.out.call hb)
    have HB1 := Lib.hid (HA.out.trans (hb.mono HA.out.size))
    have hhd := HR.out.lt
    have O1 := Lib.hid o1
    have O2 := Lib.hid o2
    have T1H := Lib.hid h1
    have T2H := Lib.hid h2
    have DJ := Lib.hid hdj
    clear h h1 h2 hdj o1 o2 hb
    obtain ⟨⟨dC, dL, dn, di, dc⟩, hD⟩ : ∃ d, newD C = d := ⟨_, rfl⟩
    have HD := Lib.hid hD
    rw [hD] at O1 O2 ⊢
    clear hD
    simp only at O1 O2 ⊢
    have r0 := HR1.out.at_ 0 rfl
    have f0 := HR1.out.soft 0
    have r1 := HR1.out.at_ 1 rfl
    have f1 := HR1.out.soft 1
    have r2 := HR1.out.at_ 2 rfl
    have f2 := HR1.out.soft 2
    have r3 := HR1.out.at_ 3 rfl
    have f3 := HR1.out.soft 3
    have r4 := HR1.out.at_ 4 rfl
    have f4 := HR1.out.soft 4
    go_wp2
    refine bodyPost_ret (v := .agg #[.slice ca dC.length cc, .slice ja dL.length jc, .int .i64 dn, .int .i64 di, .int .i64 dc]) (by simp [results, Try.results45, go_sem, *]) rfl ?_
    have hoff := ((((((Off.refl (fun x => x = W.heap.size) w1).setCell (p := ⟨W.heap.size, 0, none⟩) rfl (.slice ca dC.length cc)).setCell (p := ⟨W.heap.size, 1, none⟩) rfl (.slice ja dL.length jc)).setCell (p := ⟨W.heap.size, 2, none⟩) rfl (.int .i64 dn)).setCell (p := ⟨W.heap.size, 3, none⟩) rfl (.int .i64 di)).setCell (p := ⟨W.heap.size, 4, none⟩) rfl (.int .i64 dc))
    rw [HD.out]
    exact poolG_box (d := (dC, dL, dn, di, dc)) T1H.out T2H.out DJ.out O1.out O2.out hhd HA.out.size hoff (((((HB1.out.setCell (p := ⟨W.heap.size, 0, none⟩) (Nat.le_refl _) (.slice ca dC.length cc)).setCell (p := ⟨W.heap.size, 1, none⟩) (Nat.le_refl _) (.slice ja dL.length jc)).setCell (p := ⟨W.heap.size, 2, none⟩) (Nat.le_refl _) (.int .i64 dn)).setCell (p := ⟨W.heap.size, 3, none⟩) (Nat.le_refl _) (.int .i64 di)).setCell (p := ⟨W.heap.size, 4, none⟩) (Nat.le_refl _) (.int .i64 dc))
end Go.Proofs.Ytjpkeofpcpaoaaa.RepC
