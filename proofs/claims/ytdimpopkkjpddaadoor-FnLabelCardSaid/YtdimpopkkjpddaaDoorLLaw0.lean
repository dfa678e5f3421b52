/- The law on labels (FnLabel): its walk, out of the contracts. -/
import Derived.Test.YtdimpopkkjpddaaDoorLDraw4
import Derived.Test.YtdimpopkkjpddaaDoorLDraw6
import Derived.Test.YtdimpopkkjpddaaDoorLMath
import Derived.Test.YtdimpopkkjpddaaDoorLLat
import Derived.Test.YtdimpopkkjpddaaDoorLChainI
import Derived.Test.YtdimpopkkjpddaaDoorLLawH
namespace Go.Proofs.YtdimpopkkjpddaaDoor.DrawC
open Go.RowKit RepC LabC KeptC
set_option linter.unusedVariables false
set_option linter.unusedSimpArgs false

theorem meetV_form (l s m t : Int) : ∃ x y : Int, LabC.meetV l s m t = .agg #[.int .i64 x, .int .i64 y] := by
  unfold LabC.meetV
  split
  · exact ⟨_, _, rfl⟩
  · exact ⟨_, _, rfl⟩
theorem rdl_mv {α : Type} {E : Rp α} (hE : Ok E) {L : List α} {a : Option Addr} {c : Nat} {w w' : World} (h : RdSl E w w.heap.size L a c) (hb : Below w.heap.size w w') : RdSl E w' w'.heap.size L a c := (h.below hE hb).more hE hb.size
theorem lb_new {w V : World} (h : Below w.heap.size w V) : ∃ (U : World) (b : Nat), U = V.alloc (.cells #[.int .i64 0, .int .i64 0] 23) ∧ b = V.heap.size ∧ Below V.heap.size V U ∧ Blk U b 23 #[.int .i64 0, .int .i64 0] ∧ w.heap.size ≤ b :=
  ⟨_, _, rfl, rfl, (Below.refl _ _).alloc (Nat.le_refl _) _, Blk.new _ _ _, h.size⟩
theorem lb_store {w V : World} {b : Nat} {l0 s0 : Int} (h : Below w.heap.size w V) (hX : Blk V b 23 #[.int .i64 l0, .int .i64 s0]) (hb : w.heap.size ≤ b) (l s : Int) :
    ∃ Z : World, Z = (V.setCell ⟨b, 0, none⟩ (.int .i64 l)).setCell ⟨b, 1, none⟩ (.int .i64 s) ∧ Below w.heap.size w Z ∧ Blk Z b 23 #[.int .i64 l, .int .i64 s] ∧ ∀ (b' : Nat) (T' : TypeId) (cs : Array Value), b' ≠ b → Blk V b' T' cs → Blk Z b' T' cs :=
  ⟨_, rfl, (h.setCell (p := ⟨b, 0, none⟩) hb _).setCell (p := ⟨b, 1, none⟩) hb _, ((hX.set 0 (.int .i64 l)).set 1 (.int .i64 s)).as rfl, fun b' T' cs hne hB => (hB.far hne _).far hne _⟩
theorem two_new {w V : World} {l s m t : Int} (h : V = (w.alloc (.cells #[.int .i64 l, .int .i64 s] 23)).alloc (.cells #[.int .i64 m, .int .i64 t] 23)) :
    Hid (Below w.heap.size w V ∧ Blk V w.heap.size 23 #[.int .i64 l, .int .i64 s] ∧ Blk V (w.heap.size + 1) 23 #[.int .i64 m, .int .i64 t]) := by
  subst h
  have h2 := Blk.new (w.alloc (.cells #[.int .i64 l, .int .i64 s] 23)) 23 #[.int .i64 m, .int .i64 t]
  rw [World.size_alloc] at h2
  exact Lib.hid ⟨((Below.refl _ _).alloc (Nat.le_refl _) _).alloc (by simp) _, (Blk.new _ _ _).alloc _, h2⟩
/-- a region of a function's body -/
def regionOf (n : Nat) : Code → Option Code
  | .region id ops d => bif Nat.beq id n then some (.region id ops d) else none
  | .seq a b => match regionOf n a with
    | some c => some c
    | none => regionOf n b
  | .block _ c => regionOf n c
  | .scope c => regionOf n c
  | .loop c => regionOf n c
  | .cond _ a b => match regionOf n a with
    | some c => some c
    | none => regionOf n b
  | _ => none
noncomputable def R4 : Code := ((Tryd.f5.body.bind (regionOf 4)).getD .skip)
noncomputable def R11 : Code := ((Tryd.f5.body.bind (regionOf 11)).getD .skip)
noncomputable def R13 : Code := ((Tryd.f5.body.bind (regionOf 13)).getD .skip)
set_option maxRecDepth 100000 in
set_option maxHeartbeats 4000000 in
theorem reg4 {w1 W2 : World} {x1 y1 x2 y2 jx jy mx my : Int} (HX : Hid (Below w1.heap.size w1 W2 ∧ Blk W2 w1.heap.size 23 #[.int .i64 x1, .int .i64 y1] ∧ Blk W2 (w1.heap.size + 1) 23 #[.int .i64 x2, .int .i64 y2])) (HJ : Hid (joinV x1 y1 x2 y2 = .agg #[.int .i64 jx, .int .i64 jy])) (HMM : Hid (meetV x1 y1 x2 y2 = .agg #[.int .i64 mx, .int .i64 my])) {Q : Exit → Act → World → Prop} {z0 z1 z2 z3 z4 z7 z8 z9 z10 z11 z12 z13 z14 z15 z16 z17 z18 z19 z20 z21 z22 z23 z24 z25 z26 z27 z28 z29 z30 z31 z32 z33 z34 z35 z36 z37 z38 z39 z40 z41 z42 z43 z44 z45 z46 z47 z48 z49 z50 z51 z52 z53 z54 z55 z56 z57 z58 z59 z60 z61 z62 z63 z64 z65 z66 z67 z68 z69 z70 z71 z72 z73 z74 z75 z76 z77 z78 z79 z80 z81 z82 z83 z84 z85 z86 z87 z88 z89 z90 z91 z92 z93 z94 z95 z96 z97 z98 z99 z100 z101 z102 z103 z104 z105 z106 z107 z108 z109 z110 z111 z112 z113 z114 z115 z116 z117 z118 z119 z120 z121 z122 z123 z124 z125 z126 z127 z128 z129 z130 z131 z132 z133 z134 z135 z136 z137 z138 z139 z140 z141 z142 z143 z144 z145 z146 z147 z148 z149 z150 z151 z152 z153 z154 z155 z156 z157 z158 z159 z160 z161 z162 z163 z164 z165 z166 z167 z168 z169 z170 z171 z172 z173 z174 z175 z176 z177 z178 z179 z180 z181 z182 z183 z184 z185 z186 z187 : Value}
    (hQ : ∀ (y29 y30 y31 y32 y33 y34 : Value) (g7 g8 : Nat) (wx : World), Hid (Blk wx g7 23 #[.int .i64 jx, .int .i64 jy]) → Hid (Blk wx g8 23 #[.int .i64 mx, .int .i64 my]) → Hid (Below W2.heap.size W2 wx) → Q .normal ⟨#[z0, z1, z2, z3, z4, .pointer (some ⟨w1.heap.size, 0, none⟩), .pointer (some ⟨w1.heap.size + 1, 0, none⟩), .pointer (some ⟨g7, 0, none⟩), .pointer (some ⟨g8, 0, none⟩), z9, z10, z11, z12, z13, z14, z15, z16, z17, z18, z19, z20, z21, z22, z23, z24, z25, z26, z27, z28, y29, y30, y31, y32, y33, y34, z35, z36, z37, z38, z39, z40, z41, z42, z43, z44, z45, z46, z47, z48, z49, z50, z51, z52, z53, z54, z55, z56, z57, z58, z59, z60, z61, z62, z63, z64, z65, z66, z67, z68, z69, z70, z71, z72, z73, z74, z75, z76, z77, z78, z79, z80, z81, z82, z83, z84, z85, z86, z87, z88, z89, z90, z91, z92, z93, z94, z95, z96, z97, z98, z99, z100, z101, z102, z103, z104, z105, z106, z107, z108, z109, z110, z111, z112, z113, z114, z115, z116, z117, z118, z119, z120, z121, z122, z123, z124, z125, z126, z127, z128, z129, z130, z131, z132, z133, z134, z135, z136, z137, z138, z139, z140, z141, z142, z143, z144, z145, z146, z147, z148, z149, z150, z151, z152, z153, z154, z155, z156, z157, z158, z159, z160, z161, z162, z163, z164, z165, z166, z167, z168, z169, z170, z171, z172, z173, z174, z175, z176, z177, z178, z179, z180, z181, z182, z183, z184, z185, z186, z187], []⟩ wx) :
    Code.wp Tryd.prog R4 Q ⟨#[z0, z1, z2, z3, z4, .pointer (some ⟨w1.heap.size, 0, none⟩), .pointer (some ⟨w1.heap.size + 1, 0, none⟩), z7, z8, z9, z10, z11, z12, z13, z14, z15, z16, z17, z18, z19, z20, z21, z22, z23, z24, z25, z26, z27, z28, z29, z30, z31, z32, z33, z34, z35, z36, z37, z38, z39, z40, z41, z42, z43, z44, z45, z46, z47, z48, z49, z50, z51, z52, z53, z54, z55, z56, z57, z58, z59, z60, z61, z62, z63, z64, z65, z66, z67, z68, z69, z70, z71, z72, z73, z74, z75, z76, z77, z78, z79, z80, z81, z82, z83, z84, z85, z86, z87, z88, z89, z90, z91, z92, z93, z94, z95, z96, z97, z98, z99, z100, z101, z102, z103, z104, z105, z106, z107, z108, z109, z110, z111, z112, z113, z114, z115, z116, z117, z118, z119, z120, z121, z122, z123, z124, z125, z126, z127, z128, z129, z130, z131, z132, z133, z134, z135, z136, z137, z138, z139, z140, z141, z142, z143, z144, z145, z146, z147, z148, z149, z150, z151, z152, z153, z154, z155, z156, z157, z158, z159, z160, z161, z162, z163, z164, z165, z166, z167, z168, z169, z170, z171, z172, z173, z174, z175, z176, z177, z178, z179, z180, z181, z182, z183, z184, z185, z186, z187], []⟩ W2 := by
  conv => arg 2; whnf
  refine wp_region_noPanic ?_
  refine wp_region_held_drew (S := (fun V => Below W2.heap.size W2 V)) (by kernel_rfl) ((Below.refl _ _).drew) (fun hHeld => ?_)
  (refine wpAnyH_take (i := 0) (v := ?hv115) rfl (by kernel_rfl) (by kernel_rfl) (by kernel_rfl) (fun _ _ _ h => h) (Or.inl ⟨by kernel_rfl, ?hy115⟩) hHeld ?hr115; case hy115 => (intro w hSw; (try dsimp only at hSw); have k0 := (hSw.cell (p := ⟨w1.heap.size, 0, none⟩) HX.out.2.1.lt).trans (HX.out.2.1.at_ 0 rfl); have k1 := (hSw.cell (p := ⟨w1.heap.size, 1, none⟩) HX.out.2.1.lt).trans (HX.out.2.1.at_ 1 rfl); clear hSw; go_simp; try with_reducible rfl))
  simp only [Act.put, List.getElem_toArray, List.getElem_cons_succ, List.getElem_cons_zero, List.setIfInBounds_toArray, List.set_cons_zero, List.set_cons_succ]
  (refine wpAnyH_take (i := 1) (v := ?hv116) rfl (by kernel_rfl) (by kernel_rfl) (by kernel_rfl) (fun _ _ _ h => h) (Or.inl ⟨by kernel_rfl, ?hy116⟩) hHeld ?hr116; case hy116 => (intro w hSw; (try dsimp only at hSw); have k0 := (hSw.cell (p := ⟨w1.heap.size + 1, 0, none⟩) HX.out.2.2.lt).trans (HX.out.2.2.at_ 0 rfl); have k1 := (hSw.cell (p := ⟨w1.heap.size + 1, 1, none⟩) HX.out.2.2.lt).trans (HX.out.2.2.at_ 1 rfl); clear hSw; go_simp; try with_reducible rfl))
  simp only [Act.put, List.getElem_toArray, List.getElem_cons_succ, List.getElem_cons_zero, List.setIfInBounds_toArray, List.set_cons_zero, List.set_cons_succ]
  (refine wpAnyH_take (i := 3) (v := ?hv117) rfl (by kernel_rfl) (by kernel_rfl) (by kernel_rfl) (fun _ _ _ h => h) (Or.inl ⟨by kernel_rfl, ?hy117⟩) hHeld ?hr117; case hy117 => (intro w hSw; (try dsimp only at hSw); have k0 := (hSw.cell (p := ⟨w1.heap.size, 0, none⟩) HX.out.2.1.lt).trans (HX.out.2.1.at_ 0 rfl); have k1 := (hSw.cell (p := ⟨w1.heap.size, 1, none⟩) HX.out.2.1.lt).trans (HX.out.2.1.at_ 1 rfl); clear hSw; go_simp; try with_reducible rfl))
  simp only [Act.put, List.getElem_toArray, List.getElem_cons_succ, List.getElem_cons_zero, List.setIfInBounds_toArray, List.set_cons_zero, List.set_cons_succ]
  (refine wpAnyH_take (i := 4) (v := ?hv118) rfl (by kernel_rfl) (by kernel_rfl) (by kernel_rfl) (fun _ _ _ h => h) (Or.inl ⟨by kernel_rfl, ?hy118⟩) hHeld ?hr118; case hy118 => (intro w hSw; (try dsimp only at hSw); have k0 := (hSw.cell (p := ⟨w1.heap.size + 1, 0, none⟩) HX.out.2.2.lt).trans (HX.out.2.2.at_ 0 rfl); have k1 := (hSw.cell (p := ⟨w1.heap.size + 1, 1, none⟩) HX.out.2.2.lt).trans (HX.out.2.2.at_ 1 rfl); clear hSw; go_simp; try with_reducible rfl))
  simp only [Act.put, List.getElem_toArray, List.getElem_cons_succ, List.getElem_cons_zero, List.setIfInBounds_toArray, List.set_cons_zero, List.set_cons_succ]
  refine wpAnyH_ready (rs := [2, 6, 7]) (by kernel_rfl) (by simp) ?_
  refine AllReadyH.cons rfl (fun K hK => ?_) (AllReadyH.cons rfl (fun K hK => ?_) (AllReadyH.cons rfl (fun K hK => ?_) (AllReadyH.nil)))
  · skip
    go_simp
    go_at_call 24
    refine (LabC.join_impl x1 y1 x2 y2 _).mono ?_
    rintro e v ⟨rfl, hb⟩
    rw [HJ.out]
    try have HX7 := Lib.hid (HX7.out.call hb)
    try have HX8 := Lib.hid (HX8.out.call hb)
    refine hK.out _ _ (hHeld.trans (hb.mono hHeld.size)) (fun hHeld => ?_)
    clear hb
    clear hK K
    try simp only [Act.put, List.getElem_toArray, List.getElem_cons_succ, List.getElem_cons_zero, List.setIfInBounds_toArray, List.set_cons_zero, List.set_cons_succ]
    refine wpAnyH_ready (rs := [5, 6, 7]) (by kernel_rfl) (by simp) ?_
    refine AllReadyH.cons rfl (fun K hK => ?_) (AllReadyH.cons rfl (fun K hK => ?_) (AllReadyH.cons rfl (fun K hK => ?_) (AllReadyH.nil)))
    · skip
      go_simp
      go_at_call 25
      refine (LabC.meet_impl x1 y1 x2 y2 _).mono ?_
      rintro e v ⟨rfl, hb⟩
      rw [HMM.out]
      try have HX7 := Lib.hid (HX7.out.call hb)
      try have HX8 := Lib.hid (HX8.out.call hb)
      refine hK.out _ _ (hHeld.trans (hb.mono hHeld.size)) (fun hHeld => ?_)
      clear hb
      clear hK K
      try simp only [Act.put, List.getElem_toArray, List.getElem_cons_succ, List.getElem_cons_zero, List.setIfInBounds_toArray, List.set_cons_zero, List.set_cons_succ]
      refine wpAnyH_ready (rs := [6, 7]) (by kernel_rfl) (by simp) ?_
      refine AllReadyH.cons rfl (fun K hK => ?_) (AllReadyH.cons rfl (fun K hK => ?_) (AllReadyH.nil))
      · skip
        obtain ⟨U, b7, hU, hbn, hbU, hXU, hn7⟩ := lb_new hHeld
        go_simp
        try have hne := Nat.ne_of_lt (hbn ▸ HX8.out.lt)
        first | rw [← hU, ← hbn] | rw [show (W2.alloc (.cells #[.int .i64 0, .int .i64 0] 23)).drew = U from hU.symm, show W2.heap.size = b7 from hbn.symm]
        try have HX8 := Lib.hid (HX8.out.call hbU)
        have HX7 := Lib.hid hXU
        refine hK.out _ _ (hHeld.trans (hbU.mono hHeld.size)) (fun hHeld => ?_)
        clear hU hbn hbU hXU
        clear hK K
        try simp only [Act.put, List.getElem_toArray, List.getElem_cons_succ, List.getElem_cons_zero, List.setIfInBounds_toArray, List.set_cons_zero, List.set_cons_succ]
        refine wpAnyH_ready (rs := [7]) (by kernel_rfl) (by simp) ?_
        refine AllReadyH.cons rfl (fun K hK => ?_) (AllReadyH.nil)
        obtain ⟨U, b8, hU, hbn, hbU, hXU, hn8⟩ := lb_new hHeld
        go_simp
        try have hne := Nat.ne_of_lt (hbn ▸ HX7.out.lt)
        first | rw [← hU, ← hbn] | rw [show (W2.alloc (.cells #[.int .i64 0, .int .i64 0] 23)).drew = U from hU.symm, show W2.heap.size = b8 from hbn.symm]
        try have HX7 := Lib.hid (HX7.out.call hbU)
        have HX8 := Lib.hid hXU
        refine hK.out _ _ (hHeld.trans (hbU.mono hHeld.size)) (fun hHeld => ?_)
        clear hU hbn hbU hXU
        clear hK K
        try simp only [Act.put, List.getElem_toArray, List.getElem_cons_succ, List.getElem_cons_zero, List.setIfInBounds_toArray, List.set_cons_zero, List.set_cons_succ]
        refine wpAnyH_ready (rs := [8]) (by kernel_rfl) (by simp) ?_
        refine AllReadyH.cons rfl (fun K hK => ?_) (AllReadyH.nil)
        obtain ⟨Z, hZ, hsZ, hXZ, hfZ⟩ := lb_store hHeld HX7.out hn7 jx jy
        have r0 := HX7.out.at_ 0 rfl
        have r1 := HX7.out.at_ 1 rfl
        have f0 := HX7.out.soft 0
        have f1 := HX7.out.soft 1
        go_simp
        rw [← hZ]
        have HX7 := Lib.hid hXZ
        have HX8 := Lib.hid (hfZ _ _ _ (by first | exact hne | exact Ne.symm hne) HX8.out)
        clear hZ hXZ f0 f1 r0 r1 hfZ
        refine hK.out _ _ hsZ (fun hHeld => ?_)
        clear hsZ
        clear hK K
        try simp only [Act.put, List.getElem_toArray, List.getElem_cons_succ, List.getElem_cons_zero, List.setIfInBounds_toArray, List.set_cons_zero, List.set_cons_succ]
        refine wpAnyH_ready (rs := [9]) (by kernel_rfl) (by simp) ?_
        refine AllReadyH.cons rfl (fun K hK => ?_) (AllReadyH.nil)
        obtain ⟨Z, hZ, hsZ, hXZ, hfZ⟩ := lb_store hHeld HX8.out hn8 mx my
        have r0 := HX8.out.at_ 0 rfl
        have r1 := HX8.out.at_ 1 rfl
        have f0 := HX8.out.soft 0
        have f1 := HX8.out.soft 1
        go_simp
        rw [← hZ]
        have HX8 := Lib.hid hXZ
        have HX7 := Lib.hid (hfZ _ _ _ (by first | exact hne | exact Ne.symm hne) HX7.out)
        clear hZ hXZ f0 f1 r0 r1 hfZ
        refine hK.out _ _ hsZ (fun hHeld => ?_)
        clear hsZ
        clear hK K
        try simp only [Act.put, List.getElem_toArray, List.getElem_cons_succ, List.getElem_cons_zero, List.setIfInBounds_toArray, List.set_cons_zero, List.set_cons_succ]
        refine wpAnyH_done (by kernel_rfl) ?_ _
        exact NoPanic.normal (hQ _ _ _ _ _ _ _ _ _ HX7 HX8 (Lib.hid hHeld))
      · skip
        obtain ⟨U, b8, hU, hbn, hbU, hXU, hn8⟩ := lb_new hHeld
        go_simp
        try have hne := Nat.ne_of_lt (hbn ▸ HX7.out.lt)
        first | rw [← hU, ← hbn] | rw [show (W2.alloc (.cells #[.int .i64 0, .int .i64 0] 23)).drew = U from hU.symm, show W2.heap.size = b8 from hbn.symm]
        try have HX7 := Lib.hid (HX7.out.call hbU)
        have HX8 := Lib.hid hXU
        refine hK.out _ _ (hHeld.trans (hbU.mono hHeld.size)) (fun hHeld => ?_)
        clear hU hbn hbU hXU
        clear hK K
        try simp only [Act.put, List.getElem_toArray, List.getElem_cons_succ, List.getElem_cons_zero, List.setIfInBounds_toArray, List.set_cons_zero, List.set_cons_succ]
        refine wpAnyH_ready (rs := [6]) (by kernel_rfl) (by simp) ?_
        refine AllReadyH.cons rfl (fun K hK => ?_) (AllReadyH.nil)
        obtain ⟨U, b7, hU, hbn, hbU, hXU, hn7⟩ := lb_new hHeld
        go_simp
        try have hne := Nat.ne_of_lt (hbn ▸ HX8.out.lt)
        first | rw [← hU, ← hbn] | rw [show (W2.alloc (.cells #[.int .i64 0, .int .i64 0] 23)).drew = U from hU.symm, show W2.heap.size = b7 from hbn.symm]
        try have HX8 := Lib.hid (HX8.out.call hbU)
        have HX7 := Lib.hid hXU
        refine hK.out _ _ (hHeld.trans (hbU.mono hHeld.size)) (fun hHeld => ?_)
        clear hU hbn hbU hXU
        clear hK K
        try simp only [Act.put, List.getElem_toArray, List.getElem_cons_succ, List.getElem_cons_zero, List.setIfInBounds_toArray, List.set_cons_zero, List.set_cons_succ]
        refine wpAnyH_ready (rs := [8]) (by kernel_rfl) (by simp) ?_
        refine AllReadyH.cons rfl (fun K hK => ?_) (AllReadyH.nil)
        obtain ⟨Z, hZ, hsZ, hXZ, hfZ⟩ := lb_store hHeld HX7.out hn7 jx jy
        have r0 := HX7.out.at_ 0 rfl
        have r1 := HX7.out.at_ 1 rfl
        have f0 := HX7.out.soft 0
        have f1 := HX7.out.soft 1
        go_simp
        rw [← hZ]
        have HX7 := Lib.hid hXZ
        have HX8 := Lib.hid (hfZ _ _ _ (by first | exact hne | exact Ne.symm hne) HX8.out)
        clear hZ hXZ f0 f1 r0 r1 hfZ
        refine hK.out _ _ hsZ (fun hHeld => ?_)
        clear hsZ
        clear hK K
        try simp only [Act.put, List.getElem_toArray, List.getElem_cons_succ, List.getElem_cons_zero, List.setIfInBounds_toArray, List.set_cons_zero, List.set_cons_succ]
        refine wpAnyH_ready (rs := [9]) (by kernel_rfl) (by simp) ?_
        refine AllReadyH.cons rfl (fun K hK => ?_) (AllReadyH.nil)
        obtain ⟨Z, hZ, hsZ, hXZ, hfZ⟩ := lb_store hHeld HX8.out hn8 mx my
        have r0 := HX8.out.at_ 0 rfl
        have r1 := HX8.out.at_ 1 rfl
        have f0 := HX8.out.soft 0
        have f1 := HX8.out.soft 1
        go_simp
        rw [← hZ]
        have HX8 := Lib.hid hXZ
        have HX7 := Lib.hid (hfZ _ _ _ (by first | exact hne | exact Ne.symm hne) HX7.out)
        clear hZ hXZ f0 f1 r0 r1 hfZ
        refine hK.out _ _ hsZ (fun hHeld => ?_)
        clear hsZ
        clear hK K
        try simp only [Act.put, List.getElem_toArray, List.getElem_cons_succ, List.getElem_cons_zero, List.setIfInBounds_toArray, List.set_cons_zero, List.set_cons_succ]
        refine wpAnyH_done (by kernel_rfl) ?_ _
        exact NoPanic.normal (hQ _ _ _ _ _ _ _ _ _ HX7 HX8 (Lib.hid hHeld))
    · skip
      obtain ⟨U, b7, hU, hbn, hbU, hXU, hn7⟩ := lb_new hHeld
      go_simp
      try have hne := Nat.ne_of_lt (hbn ▸ HX8.out.lt)
      first | rw [← hU, ← hbn] | rw [show (W2.alloc (.cells #[.int .i64 0, .int .i64 0] 23)).drew = U from hU.symm, show W2.heap.size = b7 from hbn.symm]
      try have HX8 := Lib.hid (HX8.out.call hbU)
      have HX7 := Lib.hid hXU
      refine hK.out _ _ (hHeld.trans (hbU.mono hHeld.size)) (fun hHeld => ?_)
      clear hU hbn hbU hXU
      clear hK K
      try simp only [Act.put, List.getElem_toArray, List.getElem_cons_succ, List.getElem_cons_zero, List.setIfInBounds_toArray, List.set_cons_zero, List.set_cons_succ]
      refine wpAnyH_ready (rs := [5, 7]) (by kernel_rfl) (by simp) ?_
      refine AllReadyH.cons rfl (fun K hK => ?_) (AllReadyH.cons rfl (fun K hK => ?_) (AllReadyH.nil))
      · skip
        go_simp
        go_at_call 25
        refine (LabC.meet_impl x1 y1 x2 y2 _).mono ?_
        rintro e v ⟨rfl, hb⟩
        rw [HMM.out]
        try have HX7 := Lib.hid (HX7.out.call hb)
        try have HX8 := Lib.hid (HX8.out.call hb)
        refine hK.out _ _ (hHeld.trans (hb.mono hHeld.size)) (fun hHeld => ?_)
        clear hb
        clear hK K
        try simp only [Act.put, List.getElem_toArray, List.getElem_cons_succ, List.getElem_cons_zero, List.setIfInBounds_toArray, List.set_cons_zero, List.set_cons_succ]
        refine wpAnyH_ready (rs := [7]) (by kernel_rfl) (by simp) ?_
        refine AllReadyH.cons rfl (fun K hK => ?_) (AllReadyH.nil)
        obtain ⟨U, b8, hU, hbn, hbU, hXU, hn8⟩ := lb_new hHeld
        go_simp
        try have hne := Nat.ne_of_lt (hbn ▸ HX7.out.lt)
        first | rw [← hU, ← hbn] | rw [show (W2.alloc (.cells #[.int .i64 0, .int .i64 0] 23)).drew = U from hU.symm, show W2.heap.size = b8 from hbn.symm]
        try have HX7 := Lib.hid (HX7.out.call hbU)
        have HX8 := Lib.hid hXU
        refine hK.out _ _ (hHeld.trans (hbU.mono hHeld.size)) (fun hHeld => ?_)
        clear hU hbn hbU hXU
        clear hK K
        try simp only [Act.put, List.getElem_toArray, List.getElem_cons_succ, List.getElem_cons_zero, List.setIfInBounds_toArray, List.set_cons_zero, List.set_cons_succ]
        refine wpAnyH_ready (rs := [8]) (by kernel_rfl) (by simp) ?_
        refine AllReadyH.cons rfl (fun K hK => ?_) (AllReadyH.nil)
        obtain ⟨Z, hZ, hsZ, hXZ, hfZ⟩ := lb_store hHeld HX7.out hn7 jx jy
        have r0 := HX7.out.at_ 0 rfl
        have r1 := HX7.out.at_ 1 rfl
        have f0 := HX7.out.soft 0
        have f1 := HX7.out.soft 1
        go_simp
        rw [← hZ]
        have HX7 := Lib.hid hXZ
        have HX8 := Lib.hid (hfZ _ _ _ (by first | exact hne | exact Ne.symm hne) HX8.out)
        clear hZ hXZ f0 f1 r0 r1 hfZ
        refine hK.out _ _ hsZ (fun hHeld => ?_)
        clear hsZ
        clear hK K
        try simp only [Act.put, List.getElem_toArray, List.getElem_cons_succ, List.getElem_cons_zero, List.setIfInBounds_toArray, List.set_cons_zero, List.set_cons_succ]
        refine wpAnyH_ready (rs := [9]) (by kernel_rfl) (by simp) ?_
        refine AllReadyH.cons rfl (fun K hK => ?_) (AllReadyH.nil)
        obtain ⟨Z, hZ, hsZ, hXZ, hfZ⟩ := lb_store hHeld HX8.out hn8 mx my
        have r0 := HX8.out.at_ 0 rfl
        have r1 := HX8.out.at_ 1 rfl
        have f0 := HX8.out.soft 0
        have f1 := HX8.out.soft 1
        go_simp
        rw [← hZ]
        have HX8 := Lib.hid hXZ
        have HX7 := Lib.hid (hfZ _ _ _ (by first | exact hne | exact Ne.symm hne) HX7.out)
        clear hZ hXZ f0 f1 r0 r1 hfZ
        refine hK.out _ _ hsZ (fun hHeld => ?_)
        clear hsZ
        clear hK K
        try simp only [Act.put, List.getElem_toArray, List.getElem_cons_succ, List.getElem_cons_zero, List.setIfInBounds_toArray, List.set_cons_zero, List.set_cons_succ]
        refine wpAnyH_done (by kernel_rfl) ?_ _
        exact NoPanic.normal (hQ _ _ _ _ _ _ _ _ _ HX7 HX8 (Lib.hid hHeld))
      · skip
        obtain ⟨U, b8, hU, hbn, hbU, hXU, hn8⟩ := lb_new hHeld
        go_simp
        try have hne := Nat.ne_of_lt (hbn ▸ HX7.out.lt)
        first | rw [← hU, ← hbn] | rw [show (W2.alloc (.cells #[.int .i64 0, .int .i64 0] 23)).drew = U from hU.symm, show W2.heap.size = b8 from hbn.symm]
        try have HX7 := Lib.hid (HX7.out.call hbU)
        have HX8 := Lib.hid hXU
        refine hK.out _ _ (hHeld.trans (hbU.mono hHeld.size)) (fun hHeld => ?_)
        clear hU hbn hbU hXU
        clear hK K
        try simp only [Act.put, List.getElem_toArray, List.getElem_cons_succ, List.getElem_cons_zero, List.setIfInBounds_toArray, List.set_cons_zero, List.set_cons_succ]
        refine wpAnyH_ready (rs := [5]) (by kernel_rfl) (by simp) ?_
        refine AllReadyH.cons rfl (fun K hK => ?_) (AllReadyH.nil)
        go_simp
        go_at_call 25
        refine (LabC.meet_impl x1 y1 x2 y2 _).mono ?_
        rintro e v ⟨rfl, hb⟩
        rw [HMM.out]
        try have HX7 := Lib.hid (HX7.out.call hb)
        try have HX8 := Lib.hid (HX8.out.call hb)
        refine hK.out _ _ (hHeld.trans (hb.mono hHeld.size)) (fun hHeld => ?_)
        clear hb
        clear hK K
        try simp only [Act.put, List.getElem_toArray, List.getElem_cons_succ, List.getElem_cons_zero, List.setIfInBounds_toArray, List.set_cons_zero, List.set_cons_succ]
        refine wpAnyH_ready (rs := [8]) (by kernel_rfl) (by simp) ?_
        refine AllReadyH.cons rfl (fun K hK => ?_) (AllReadyH.nil)
        obtain ⟨Z, hZ, hsZ, hXZ, hfZ⟩ := lb_store hHeld HX7.out hn7 jx jy
        have r0 := HX7.out.at_ 0 rfl
        have r1 := HX7.out.at_ 1 rfl
        have f0 := HX7.out.soft 0
        have f1 := HX7.out.soft 1
        go_simp
        rw [← hZ]
        have HX7 := Lib.hid hXZ
        have HX8 := Lib.hid (hfZ _ _ _ (by first | exact hne | exact Ne.symm hne) HX8.out)
        clear hZ hXZ f0 f1 r0 r1 hfZ
        refine hK.out _ _ hsZ (fun hHeld => ?_)
        clear hsZ
        clear hK K
        try simp only [Act.put, List.getElem_toArray, List.getElem_cons_succ, List.getElem_cons_zero, List.setIfInBounds_toArray, List.set_cons_zero, List.set_cons_succ]
        refine wpAnyH_ready (rs := [9]) (by kernel_rfl) (by simp) ?_
        refine AllReadyH.cons rfl (fun K hK => ?_) (AllReadyH.nil)
        obtain ⟨Z, hZ, hsZ, hXZ, hfZ⟩ := lb_store hHeld HX8.out hn8 mx my
        have r0 := HX8.out.at_ 0 rfl
        have r1 := HX8.out.at_ 1 rfl
        have f0 := HX8.out.soft 0
        have f1 := HX8.out.soft 1
        go_simp
        rw [← hZ]
        have HX8 := Lib.hid hXZ
        have HX7 := Lib.hid (hfZ _ _ _ (by first | exact hne | exact Ne.symm hne) HX7.out)
        clear hZ hXZ f0 f1 r0 r1 hfZ
        refine hK.out _ _ hsZ (fun hHeld => ?_)
        clear hsZ
        clear hK K
        try simp only [Act.put, List.getElem_toArray, List.getElem_cons_succ, List.getElem_cons_zero, List.setIfInBounds_toArray, List.set_cons_zero, List.set_cons_succ]
        refine wpAnyH_done (by kernel_rfl) ?_ _
        exact NoPanic.normal (hQ _ _ _ _ _ _ _ _ _ HX7 HX8 (Lib.hid hHeld))
    · skip
      obtain ⟨U, b8, hU, hbn, hbU, hXU, hn8⟩ := lb_new hHeld
      go_simp
      try have hne := Nat.ne_of_lt (hbn ▸ HX7.out.lt)
      first | rw [← hU, ← hbn] | rw [show (W2.alloc (.cells #[.int .i64 0, .int .i64 0] 23)).drew = U from hU.symm, show W2.heap.size = b8 from hbn.symm]
      try have HX7 := Lib.hid (HX7.out.call hbU)
      have HX8 := Lib.hid hXU
      refine hK.out _ _ (hHeld.trans (hbU.mono hHeld.size)) (fun hHeld => ?_)
      clear hU hbn hbU hXU
      clear hK K
      try simp only [Act.put, List.getElem_toArray, List.getElem_cons_succ, List.getElem_cons_zero, List.setIfInBounds_toArray, List.set_cons_zero, List.set_cons_succ]
      refine wpAnyH_ready (rs := [5, 6]) (by kernel_rfl) (by simp) ?_
      refine AllReadyH.cons rfl (fun K hK => ?_) (AllReadyH.cons rfl (fun K hK => ?_) (AllReadyH.nil))
      · skip
        go_simp
        go_at_call 25
        refine (LabC.meet_impl x1 y1 x2 y2 _).mono ?_
        rintro e v ⟨rfl, hb⟩
        rw [HMM.out]
        try have HX7 := Lib.hid (HX7.out.call hb)
        try have HX8 := Lib.hid (HX8.out.call hb)
        refine hK.out _ _ (hHeld.trans (hb.mono hHeld.size)) (fun hHeld => ?_)
        clear hb
        clear hK K
        try simp only [Act.put, List.getElem_toArray, List.getElem_cons_succ, List.getElem_cons_zero, List.setIfInBounds_toArray, List.set_cons_zero, List.set_cons_succ]
        refine wpAnyH_ready (rs := [6]) (by kernel_rfl) (by simp) ?_
        refine AllReadyH.cons rfl (fun K hK => ?_) (AllReadyH.nil)
        obtain ⟨U, b7, hU, hbn, hbU, hXU, hn7⟩ := lb_new hHeld
        go_simp
        try have hne := Nat.ne_of_lt (hbn ▸ HX8.out.lt)
        first | rw [← hU, ← hbn] | rw [show (W2.alloc (.cells #[.int .i64 0, .int .i64 0] 23)).drew = U from hU.symm, show W2.heap.size = b7 from hbn.symm]
        try have HX8 := Lib.hid (HX8.out.call hbU)
        have HX7 := Lib.hid hXU
        refine hK.out _ _ (hHeld.trans (hbU.mono hHeld.size)) (fun hHeld => ?_)
        clear hU hbn hbU hXU
        clear hK K
        try simp only [Act.put, List.getElem_toArray, List.getElem_cons_succ, List.getElem_cons_zero, List.setIfInBounds_toArray, List.set_cons_zero, List.set_cons_succ]
        refine wpAnyH_ready (rs := [8]) (by kernel_rfl) (by simp) ?_
        refine AllReadyH.cons rfl (fun K hK => ?_) (AllReadyH.nil)
        obtain ⟨Z, hZ, hsZ, hXZ, hfZ⟩ := lb_store hHeld HX7.out hn7 jx jy
        have r0 := HX7.out.at_ 0 rfl
        have r1 := HX7.out.at_ 1 rfl
        have f0 := HX7.out.soft 0
        have f1 := HX7.out.soft 1
        go_simp
        rw [← hZ]
        have HX7 := Lib.hid hXZ
        have HX8 := Lib.hid (hfZ _ _ _ (by first | exact hne | exact Ne.symm hne) HX8.out)
        clear hZ hXZ f0 f1 r0 r1 hfZ
        refine hK.out _ _ hsZ (fun hHeld => ?_)
        clear hsZ
        clear hK K
        try simp only [Act.put, List.getElem_toArray, List.getElem_cons_succ, List.getElem_cons_zero, List.setIfInBounds_toArray, List.set_cons_zero, List.set_cons_succ]
        refine wpAnyH_ready (rs := [9]) (by kernel_rfl) (by simp) ?_
        refine AllReadyH.cons rfl (fun K hK => ?_) (AllReadyH.nil)
        obtain ⟨Z, hZ, hsZ, hXZ, hfZ⟩ := lb_store hHeld HX8.out hn8 mx my
        have r0 := HX8.out.at_ 0 rfl
        have r1 := HX8.out.at_ 1 rfl
        have f0 := HX8.out.soft 0
        have f1 := HX8.out.soft 1
        go_simp
        rw [← hZ]
        have HX8 := Lib.hid hXZ
        have HX7 := Lib.hid (hfZ _ _ _ (by first | exact hne | exact Ne.symm hne) HX7.out)
        clear hZ hXZ f0 f1 r0 r1 hfZ
        refine hK.out _ _ hsZ (fun hHeld => ?_)
        clear hsZ
        clear hK K
        try simp only [Act.put, List.getElem_toArray, List.getElem_cons_succ, List.getElem_cons_zero, List.setIfInBounds_toArray, List.set_cons_zero, List.set_cons_succ]
        refine wpAnyH_done (by kernel_rfl) ?_ _
        exact NoPanic.normal (hQ _ _ _ _ _ _ _ _ _ HX7 HX8 (Lib.hid hHeld))
      · skip
        obtain ⟨U, b7, hU, hbn, hbU, hXU, hn7⟩ := lb_new hHeld
        go_simp
        try have hne := Nat.ne_of_lt (hbn ▸ HX8.out.lt)
        first | rw [← hU, ← hbn] | rw [show (W2.alloc (.cells #[.int .i64 0, .int .i64 0] 23)).drew = U from hU.symm, show W2.heap.size = b7 from hbn.symm]
        try have HX8 := Lib.hid (HX8.out.call hbU)
        have HX7 := Lib.hid hXU
        refine hK.out _ _ (hHeld.trans (hbU.mono hHeld.size)) (fun hHeld => ?_)
        clear hU hbn hbU hXU
        clear hK K
        try simp only [Act.put, List.getElem_toArray, List.getElem_cons_succ, List.getElem_cons_zero, List.setIfInBounds_toArray, List.set_cons_zero, List.set_cons_succ]
        refine wpAnyH_ready (rs := [5]) (by kernel_rfl) (by simp) ?_
        refine AllReadyH.cons rfl (fun K hK => ?_) (AllReadyH.nil)
        go_simp
        go_at_call 25
        refine (LabC.meet_impl x1 y1 x2 y2 _).mono ?_
        rintro e v ⟨rfl, hb⟩
        rw [HMM.out]
        try have HX7 := Lib.hid (HX7.out.call hb)
        try have HX8 := Lib.hid (HX8.out.call hb)
        refine hK.out _ _ (hHeld.trans (hb.mono hHeld.size)) (fun hHeld => ?_)
        clear hb
        clear hK K
        try simp only [Act.put, List.getElem_toArray, List.getElem_cons_succ, List.getElem_cons_zero, List.setIfInBounds_toArray, List.set_cons_zero, List.set_cons_succ]
        refine wpAnyH_ready (rs := [8]) (by kernel_rfl) (by simp) ?_
        refine AllReadyH.cons rfl (fun K hK => ?_) (AllReadyH.nil)
        obtain ⟨Z, hZ, hsZ, hXZ, hfZ⟩ := lb_store hHeld HX7.out hn7 jx jy
        have r0 := HX7.out.at_ 0 rfl
        have r1 := HX7.out.at_ 1 rfl
        have f0 := HX7.out.soft 0
        have f1 := HX7.out.soft 1
        go_simp
        rw [← hZ]
        have HX7 := Lib.hid hXZ
        have HX8 := Lib.hid (hfZ _ _ _ (by first | exact hne | exact Ne.symm hne) HX8.out)
        clear hZ hXZ f0 f1 r0 r1 hfZ
        refine hK.out _ _ hsZ (fun hHeld => ?_)
        clear hsZ
        clear hK K
        try simp only [Act.put, List.getElem_toArray, List.getElem_cons_succ, List.getElem_cons_zero, List.setIfInBounds_toArray, List.set_cons_zero, List.set_cons_succ]
        refine wpAnyH_ready (rs := [9]) (by kernel_rfl) (by simp) ?_
        refine AllReadyH.cons rfl (fun K hK => ?_) (AllReadyH.nil)
        obtain ⟨Z, hZ, hsZ, hXZ, hfZ⟩ := lb_store hHeld HX8.out hn8 mx my
        have r0 := HX8.out.at_ 0 rfl
        have r1 := HX8.out.at_ 1 rfl
        have f0 := HX8.out.soft 0
        have f1 := HX8.out.soft 1
        go_simp
        rw [← hZ]
        have HX8 := Lib.hid hXZ
        have HX7 := Lib.hid (hfZ _ _ _ (by first | exact hne | exact Ne.symm hne) HX7.out)
        clear hZ hXZ f0 f1 r0 r1 hfZ
        refine hK.out _ _ hsZ (fun hHeld => ?_)
        clear hsZ
        clear hK K
        try simp only [Act.put, List.getElem_toArray, List.getElem_cons_succ, List.getElem_cons_zero, List.setIfInBounds_toArray, List.set_cons_zero, List.set_cons_succ]
        refine wpAnyH_done (by kernel_rfl) ?_ _
        exact NoPanic.normal (hQ _ _ _ _ _ _ _ _ _ HX7 HX8 (Lib.hid hHeld))
  · skip
    obtain ⟨U, b7, hU, hbn, hbU, hXU, hn7⟩ := lb_new hHeld
    go_simp
    try have hne := Nat.ne_of_lt (hbn ▸ HX8.out.lt)
    first | rw [← hU, ← hbn] | rw [show (W2.alloc (.cells #[.int .i64 0, .int .i64 0] 23)).drew = U from hU.symm, show W2.heap.size = b7 from hbn.symm]
    try have HX8 := Lib.hid (HX8.out.call hbU)
    have HX7 := Lib.hid hXU
    refine hK.out _ _ (hHeld.trans (hbU.mono hHeld.size)) (fun hHeld => ?_)
    clear hU hbn hbU hXU
    clear hK K
    try simp only [Act.put, List.getElem_toArray, List.getElem_cons_succ, List.getElem_cons_zero, List.setIfInBounds_toArray, List.set_cons_zero, List.set_cons_succ]
    refine wpAnyH_ready (rs := [2, 7]) (by kernel_rfl) (by simp) ?_
    refine AllReadyH.cons rfl (fun K hK => ?_) (AllReadyH.cons rfl (fun K hK => ?_) (AllReadyH.nil))
    · skip
      go_simp
      go_at_call 24
      refine (LabC.join_impl x1 y1 x2 y2 _).mono ?_
      rintro e v ⟨rfl, hb⟩
      rw [HJ.out]
      try have HX7 := Lib.hid (HX7.out.call hb)
      try have HX8 := Lib.hid (HX8.out.call hb)
      refine hK.out _ _ (hHeld.trans (hb.mono hHeld.size)) (fun hHeld => ?_)
      clear hb
      clear hK K
      try simp only [Act.put, List.getElem_toArray, List.getElem_cons_succ, List.getElem_cons_zero, List.setIfInBounds_toArray, List.set_cons_zero, List.set_cons_succ]
      refine wpAnyH_ready (rs := [5, 7]) (by kernel_rfl) (by simp) ?_
      refine AllReadyH.cons rfl (fun K hK => ?_) (AllReadyH.cons rfl (fun K hK => ?_) (AllReadyH.nil))
      · skip
        go_simp
        go_at_call 25
        refine (LabC.meet_impl x1 y1 x2 y2 _).mono ?_
        rintro e v ⟨rfl, hb⟩
        rw [HMM.out]
        try have HX7 := Lib.hid (HX7.out.call hb)
        try have HX8 := Lib.hid (HX8.out.call hb)
        refine hK.out _ _ (hHeld.trans (hb.mono hHeld.size)) (fun hHeld => ?_)
        clear hb
        clear hK K
        try simp only [Act.put, List.getElem_toArray, List.getElem_cons_succ, List.getElem_cons_zero, List.setIfInBounds_toArray, List.set_cons_zero, List.set_cons_succ]
        refine wpAnyH_ready (rs := [7]) (by kernel_rfl) (by simp) ?_
        refine AllReadyH.cons rfl (fun K hK => ?_) (AllReadyH.nil)
        obtain ⟨U, b8, hU, hbn, hbU, hXU, hn8⟩ := lb_new hHeld
        go_simp
        try have hne := Nat.ne_of_lt (hbn ▸ HX7.out.lt)
        first | rw [← hU, ← hbn] | rw [show (W2.alloc (.cells #[.int .i64 0, .int .i64 0] 23)).drew = U from hU.symm, show W2.heap.size = b8 from hbn.symm]
        try have HX7 := Lib.hid (HX7.out.call hbU)
        have HX8 := Lib.hid hXU
        refine hK.out _ _ (hHeld.trans (hbU.mono hHeld.size)) (fun hHeld => ?_)
        clear hU hbn hbU hXU
        clear hK K
        try simp only [Act.put, List.getElem_toArray, List.getElem_cons_succ, List.getElem_cons_zero, List.setIfInBounds_toArray, List.set_cons_zero, List.set_cons_succ]
        refine wpAnyH_ready (rs := [8]) (by kernel_rfl) (by simp) ?_
        refine AllReadyH.cons rfl (fun K hK => ?_) (AllReadyH.nil)
        obtain ⟨Z, hZ, hsZ, hXZ, hfZ⟩ := lb_store hHeld HX7.out hn7 jx jy
        have r0 := HX7.out.at_ 0 rfl
        have r1 := HX7.out.at_ 1 rfl
        have f0 := HX7.out.soft 0
        have f1 := HX7.out.soft 1
        go_simp
        rw [← hZ]
        have HX7 := Lib.hid hXZ
        have HX8 := Lib.hid (hfZ _ _ _ (by first | exact hne | exact Ne.symm hne) HX8.out)
        clear hZ hXZ f0 f1 r0 r1 hfZ
        refine hK.out _ _ hsZ (fun hHeld => ?_)
        clear hsZ
        clear hK K
        try simp only [Act.put, List.getElem_toArray, List.getElem_cons_succ, List.getElem_cons_zero, List.setIfInBounds_toArray, List.set_cons_zero, List.set_cons_succ]
        refine wpAnyH_ready (rs := [9]) (by kernel_rfl) (by simp) ?_
        refine AllReadyH.cons rfl (fun K hK => ?_) (AllReadyH.nil)
        obtain ⟨Z, hZ, hsZ, hXZ, hfZ⟩ := lb_store hHeld HX8.out hn8 mx my
        have r0 := HX8.out.at_ 0 rfl
        have r1 := HX8.out.at_ 1 rfl
        have f0 := HX8.out.soft 0
        have f1 := HX8.out.soft 1
        go_simp
        rw [← hZ]
        have HX8 := Lib.hid hXZ
        have HX7 := Lib.hid (hfZ _ _ _ (by first | exact hne | exact Ne.symm hne) HX7.out)
        clear hZ hXZ f0 f1 r0 r1 hfZ
        refine hK.out _ _ hsZ (fun hHeld => ?_)
        clear hsZ
        clear hK K
        try simp only [Act.put, List.getElem_toArray, List.getElem_cons_succ, List.getElem_cons_zero, List.setIfInBounds_toArray, List.set_cons_zero, List.set_cons_succ]
        refine wpAnyH_done (by kernel_rfl) ?_ _
        exact NoPanic.normal (hQ _ _ _ _ _ _ _ _ _ HX7 HX8 (Lib.hid hHeld))
      · skip
        obtain ⟨U, b8, hU, hbn, hbU, hXU, hn8⟩ := lb_new hHeld
        go_simp
        try have hne := Nat.ne_of_lt (hbn ▸ HX7.out.lt)
        first | rw [← hU, ← hbn] | rw [show (W2.alloc (.cells #[.int .i64 0, .int .i64 0] 23)).drew = U from hU.symm, show W2.heap.size = b8 from hbn.symm]
        try have HX7 := Lib.hid (HX7.out.call hbU)
        have HX8 := Lib.hid hXU
        refine hK.out _ _ (hHeld.trans (hbU.mono hHeld.size)) (fun hHeld => ?_)
        clear hU hbn hbU hXU
        clear hK K
        try simp only [Act.put, List.getElem_toArray, List.getElem_cons_succ, List.getElem_cons_zero, List.setIfInBounds_toArray, List.set_cons_zero, List.set_cons_succ]
        refine wpAnyH_ready (rs := [5]) (by kernel_rfl) (by simp) ?_
        refine AllReadyH.cons rfl (fun K hK => ?_) (AllReadyH.nil)
        go_simp
        go_at_call 25
        refine (LabC.meet_impl x1 y1 x2 y2 _).mono ?_
        rintro e v ⟨rfl, hb⟩
        rw [HMM.out]
        try have HX7 := Lib.hid (HX7.out.call hb)
        try have HX8 := Lib.hid (HX8.out.call hb)
        refine hK.out _ _ (hHeld.trans (hb.mono hHeld.size)) (fun hHeld => ?_)
        clear hb
        clear hK K
        try simp only [Act.put, List.getElem_toArray, List.getElem_cons_succ, List.getElem_cons_zero, List.setIfInBounds_toArray, List.set_cons_zero, List.set_cons_succ]
        refine wpAnyH_ready (rs := [8]) (by kernel_rfl) (by simp) ?_
        refine AllReadyH.cons rfl (fun K hK => ?_) (AllReadyH.nil)
        obtain ⟨Z, hZ, hsZ, hXZ, hfZ⟩ := lb_store hHeld HX7.out hn7 jx jy
        have r0 := HX7.out.at_ 0 rfl
        have r1 := HX7.out.at_ 1 rfl
        have f0 := HX7.out.soft 0
        have f1 := HX7.out.soft 1
        go_simp
        rw [← hZ]
        have HX7 := Lib.hid hXZ
        have HX8 := Lib.hid (hfZ _ _ _ (by first | exact hne | exact Ne.symm hne) HX8.out)
        clear hZ hXZ f0 f1 r0 r1 hfZ
        refine hK.out _ _ hsZ (fun hHeld => ?_)
        clear hsZ
        clear hK K
        try simp only [Act.put, List.getElem_toArray, List.getElem_cons_succ, List.getElem_cons_zero, List.setIfInBounds_toArray, List.set_cons_zero, List.set_cons_succ]
        refine wpAnyH_ready (rs := [9]) (by kernel_rfl) (by simp) ?_
        refine AllReadyH.cons rfl (fun K hK => ?_) (AllReadyH.nil)
        obtain ⟨Z, hZ, hsZ, hXZ, hfZ⟩ := lb_store hHeld HX8.out hn8 mx my
        have r0 := HX8.out.at_ 0 rfl
        have r1 := HX8.out.at_ 1 rfl
        have f0 := HX8.out.soft 0
        have f1 := HX8.out.soft 1
        go_simp
        rw [← hZ]
        have HX8 := Lib.hid hXZ
        have HX7 := Lib.hid (hfZ _ _ _ (by first | exact hne | exact Ne.symm hne) HX7.out)
        clear hZ hXZ f0 f1 r0 r1 hfZ
        refine hK.out _ _ hsZ (fun hHeld => ?_)
        clear hsZ
        clear hK K
        try simp only [Act.put, List.getElem_toArray, List.getElem_cons_succ, List.getElem_cons_zero, List.setIfInBounds_toArray, List.set_cons_zero, List.set_cons_succ]
        refine wpAnyH_done (by kernel_rfl) ?_ _
        exact NoPanic.normal (hQ _ _ _ _ _ _ _ _ _ HX7 HX8 (Lib.hid hHeld))
    · skip
      obtain ⟨U, b8, hU, hbn, hbU, hXU, hn8⟩ := lb_new hHeld
      go_simp
      try have hne := Nat.ne_of_lt (hbn ▸ HX7.out.lt)
      first | rw [← hU, ← hbn] | rw [show (W2.alloc (.cells #[.int .i64 0, .int .i64 0] 23)).drew = U from hU.symm, show W2.heap.size = b8 from hbn.symm]
      try have HX7 := Lib.hid (HX7.out.call hbU)
      have HX8 := Lib.hid hXU
      refine hK.out _ _ (hHeld.trans (hbU.mono hHeld.size)) (fun hHeld => ?_)
      clear hU hbn hbU hXU
      clear hK K
      try simp only [Act.put, List.getElem_toArray, List.getElem_cons_succ, List.getElem_cons_zero, List.setIfInBounds_toArray, List.set_cons_zero, List.set_cons_succ]
      refine wpAnyH_ready (rs := [2]) (by kernel_rfl) (by simp) ?_
      refine AllReadyH.cons rfl (fun K hK => ?_) (AllReadyH.nil)
      go_simp
      go_at_call 24
      refine (LabC.join_impl x1 y1 x2 y2 _).mono ?_
      rintro e v ⟨rfl, hb⟩
      rw [HJ.out]
      try have HX7 := Lib.hid (HX7.out.call hb)
      try have HX8 := Lib.hid (HX8.out.call hb)
      refine hK.out _ _ (hHeld.trans (hb.mono hHeld.size)) (fun hHeld => ?_)
      clear hb
      clear hK K
      try simp only [Act.put, List.getElem_toArray, List.getElem_cons_succ, List.getElem_cons_zero, List.setIfInBounds_toArray, List.set_cons_zero, List.set_cons_succ]
      refine wpAnyH_ready (rs := [5]) (by kernel_rfl) (by simp) ?_
      refine AllReadyH.cons rfl (fun K hK => ?_) (AllReadyH.nil)
      go_simp
      go_at_call 25
      refine (LabC.meet_impl x1 y1 x2 y2 _).mono ?_
      rintro e v ⟨rfl, hb⟩
      rw [HMM.out]
      try have HX7 := Lib.hid (HX7.out.call hb)
      try have HX8 := Lib.hid (HX8.out.call hb)
      refine hK.out _ _ (hHeld.trans (hb.mono hHeld.size)) (fun hHeld => ?_)
      clear hb
      clear hK K
      try simp only [Act.put, List.getElem_toArray, List.getElem_cons_succ, List.getElem_cons_zero, List.setIfInBounds_toArray, List.set_cons_zero, List.set_cons_succ]
      refine wpAnyH_ready (rs := [8]) (by kernel_rfl) (by simp) ?_
      refine AllReadyH.cons rfl (fun K hK => ?_) (AllReadyH.nil)
      obtain ⟨Z, hZ, hsZ, hXZ, hfZ⟩ := lb_store hHeld HX7.out hn7 jx jy
      have r0 := HX7.out.at_ 0 rfl
      have r1 := HX7.out.at_ 1 rfl
      have f0 := HX7.out.soft 0
      have f1 := HX7.out.soft 1
      go_simp
      rw [← hZ]
      have HX7 := Lib.hid hXZ
      have HX8 := Lib.hid (hfZ _ _ _ (by first | exact hne | exact Ne.symm hne) HX8.out)
      clear hZ hXZ f0 f1 r0 r1 hfZ
      refine hK.out _ _ hsZ (fun hHeld => ?_)
      clear hsZ
      clear hK K
      try simp only [Act.put, List.getElem_toArray, List.getElem_cons_succ, List.getElem_cons_zero, List.setIfInBounds_toArray, List.set_cons_zero, List.set_cons_succ]
      refine wpAnyH_ready (rs := [9]) (by kernel_rfl) (by simp) ?_
      refine AllReadyH.cons rfl (fun K hK => ?_) (AllReadyH.nil)
      obtain ⟨Z, hZ, hsZ, hXZ, hfZ⟩ := lb_store hHeld HX8.out hn8 mx my
      have r0 := HX8.out.at_ 0 rfl
      have r1 := HX8.out.at_ 1 rfl
      have f0 := HX8.out.soft 0
      have f1 := HX8.out.soft 1
      go_simp
      rw [← hZ]
      have HX8 := Lib.hid hXZ
      have HX7 := Lib.hid (hfZ _ _ _ (by first | exact hne | exact Ne.symm hne) HX7.out)
      clear hZ hXZ f0 f1 r0 r1 hfZ
      refine hK.out _ _ hsZ (fun hHeld => ?_)
      clear hsZ
      clear hK K
      try simp only [Act.put, List.getElem_toArray, List.getElem_cons_succ, List.getElem_cons_zero, List.setIfInBounds_toArray, List.set_cons_zero, List.set_cons_succ]
      refine wpAnyH_done (by kernel_rfl) ?_ _
      exact NoPanic.normal (hQ _ _ _ _ _ _ _ _ _ HX7 HX8 (Lib.hid hHeld))
  · skip
    obtain ⟨U, b8, hU, hbn, hbU, hXU, hn8⟩ := lb_new hHeld
    go_simp
    try have hne := Nat.ne_of_lt (hbn ▸ HX7.out.lt)
    first | rw [← hU, ← hbn] | rw [show (W2.alloc (.cells #[.int .i64 0, .int .i64 0] 23)).drew = U from hU.symm, show W2.heap.size = b8 from hbn.symm]
    try have HX7 := Lib.hid (HX7.out.call hbU)
    have HX8 := Lib.hid hXU
    refine hK.out _ _ (hHeld.trans (hbU.mono hHeld.size)) (fun hHeld => ?_)
    clear hU hbn hbU hXU
    clear hK K
    try simp only [Act.put, List.getElem_toArray, List.getElem_cons_succ, List.getElem_cons_zero, List.setIfInBounds_toArray, List.set_cons_zero, List.set_cons_succ]
    refine wpAnyH_ready (rs := [2, 6]) (by kernel_rfl) (by simp) ?_
    refine AllReadyH.cons rfl (fun K hK => ?_) (AllReadyH.cons rfl (fun K hK => ?_) (AllReadyH.nil))
    · skip
      go_simp
      go_at_call 24
      refine (LabC.join_impl x1 y1 x2 y2 _).mono ?_
      rintro e v ⟨rfl, hb⟩
      rw [HJ.out]
      try have HX7 := Lib.hid (HX7.out.call hb)
      try have HX8 := Lib.hid (HX8.out.call hb)
      refine hK.out _ _ (hHeld.trans (hb.mono hHeld.size)) (fun hHeld => ?_)
      clear hb
      clear hK K
      try simp only [Act.put, List.getElem_toArray, List.getElem_cons_succ, List.getElem_cons_zero, List.setIfInBounds_toArray, List.set_cons_zero, List.set_cons_succ]
      refine wpAnyH_ready (rs := [5, 6]) (by kernel_rfl) (by simp) ?_
      refine AllReadyH.cons rfl (fun K hK => ?_) (AllReadyH.cons rfl (fun K hK => ?_) (AllReadyH.nil))
      · skip
        go_simp
        go_at_call 25
        refine (LabC.meet_impl x1 y1 x2 y2 _).mono ?_
        rintro e v ⟨rfl, hb⟩
        rw [HMM.out]
        try have HX7 := Lib.hid (HX7.out.call hb)
        try have HX8 := Lib.hid (HX8.out.call hb)
        refine hK.out _ _ (hHeld.trans (hb.mono hHeld.size)) (fun hHeld => ?_)
        clear hb
        clear hK K
        try simp only [Act.put, List.getElem_toArray, List.getElem_cons_succ, List.getElem_cons_zero, List.setIfInBounds_toArray, List.set_cons_zero, List.set_cons_succ]
        refine wpAnyH_ready (rs := [6]) (by kernel_rfl) (by simp) ?_
        refine AllReadyH.cons rfl (fun K hK => ?_) (AllReadyH.nil)
        obtain ⟨U, b7, hU, hbn, hbU, hXU, hn7⟩ := lb_new hHeld
        go_simp
        try have hne := Nat.ne_of_lt (hbn ▸ HX8.out.lt)
        first | rw [← hU, ← hbn] | rw [show (W2.alloc (.cells #[.int .i64 0, .int .i64 0] 23)).drew = U from hU.symm, show W2.heap.size = b7 from hbn.symm]
        try have HX8 := Lib.hid (HX8.out.call hbU)
        have HX7 := Lib.hid hXU
        refine hK.out _ _ (hHeld.trans (hbU.mono hHeld.size)) (fun hHeld => ?_)
        clear hU hbn hbU hXU
        clear hK K
        try simp only [Act.put, List.getElem_toArray, List.getElem_cons_succ, List.getElem_cons_zero, List.setIfInBounds_toArray, List.set_cons_zero, List.set_cons_succ]
        refine wpAnyH_ready (rs := [8]) (by kernel_rfl) (by simp) ?_
        refine AllReadyH.cons rfl (fun K hK => ?_) (AllReadyH.nil)
        obtain ⟨Z, hZ, hsZ, hXZ, hfZ⟩ := lb_store hHeld HX7.out hn7 jx jy
        have r0 := HX7.out.at_ 0 rfl
        have r1 := HX7.out.at_ 1 rfl
        have f0 := HX7.out.soft 0
        have f1 := HX7.out.soft 1
        go_simp
        rw [← hZ]
        have HX7 := Lib.hid hXZ
        have HX8 := Lib.hid (hfZ _ _ _ (by first | exact hne | exact Ne.symm hne) HX8.out)
        clear hZ hXZ f0 f1 r0 r1 hfZ
        refine hK.out _ _ hsZ (fun hHeld => ?_)
        clear hsZ
        clear hK K
        try simp only [Act.put, List.getElem_toArray, List.getElem_cons_succ, List.getElem_cons_zero, List.setIfInBounds_toArray, List.set_cons_zero, List.set_cons_succ]
        refine wpAnyH_ready (rs := [9]) (by kernel_rfl) (by simp) ?_
        refine AllReadyH.cons rfl (fun K hK => ?_) (AllReadyH.nil)
        obtain ⟨Z, hZ, hsZ, hXZ, hfZ⟩ := lb_store hHeld HX8.out hn8 mx my
        have r0 := HX8.out.at_ 0 rfl
        have r1 := HX8.out.at_ 1 rfl
        have f0 := HX8.out.soft 0
        have f1 := HX8.out.soft 1
        go_simp
        rw [← hZ]
        have HX8 := Lib.hid hXZ
        have HX7 := Lib.hid (hfZ _ _ _ (by first | exact hne | exact Ne.symm hne) HX7.out)
        clear hZ hXZ f0 f1 r0 r1 hfZ
        refine hK.out _ _ hsZ (fun hHeld => ?_)
        clear hsZ
        clear hK K
        try simp only [Act.put, List.getElem_toArray, List.getElem_cons_succ, List.getElem_cons_zero, List.setIfInBounds_toArray, List.set_cons_zero, List.set_cons_succ]
        refine wpAnyH_done (by kernel_rfl) ?_ _
        exact NoPanic.normal (hQ _ _ _ _ _ _ _ _ _ HX7 HX8 (Lib.hid hHeld))
      · skip
        obtain ⟨U, b7, hU, hbn, hbU, hXU, hn7⟩ := lb_new hHeld
        go_simp
        try have hne := Nat.ne_of_lt (hbn ▸ HX8.out.lt)
        first | rw [← hU, ← hbn] | rw [show (W2.alloc (.cells #[.int .i64 0, .int .i64 0] 23)).drew = U from hU.symm, show W2.heap.size = b7 from hbn.symm]
        try have HX8 := Lib.hid (HX8.out.call hbU)
        have HX7 := Lib.hid hXU
        refine hK.out _ _ (hHeld.trans (hbU.mono hHeld.size)) (fun hHeld => ?_)
        clear hU hbn hbU hXU
        clear hK K
        try simp only [Act.put, List.getElem_toArray, List.getElem_cons_succ, List.getElem_cons_zero, List.setIfInBounds_toArray, List.set_cons_zero, List.set_cons_succ]
        refine wpAnyH_ready (rs := [5]) (by kernel_rfl) (by simp) ?_
        refine AllReadyH.cons rfl (fun K hK => ?_) (AllReadyH.nil)
        go_simp
        go_at_call 25
        refine (LabC.meet_impl x1 y1 x2 y2 _).mono ?_
        rintro e v ⟨rfl, hb⟩
        rw [HMM.out]
        try have HX7 := Lib.hid (HX7.out.call hb)
        try have HX8 := Lib.hid (HX8.out.call hb)
        refine hK.out _ _ (hHeld.trans (hb.mono hHeld.size)) (fun hHeld => ?_)
        clear hb
        clear hK K
        try simp only [Act.put, List.getElem_toArray, List.getElem_cons_succ, List.getElem_cons_zero, List.setIfInBounds_toArray, List.set_cons_zero, List.set_cons_succ]
        refine wpAnyH_ready (rs := [8]) (by kernel_rfl) (by simp) ?_
        refine AllReadyH.cons rfl (fun K hK => ?_) (AllReadyH.nil)
        obtain ⟨Z, hZ, hsZ, hXZ, hfZ⟩ := lb_store hHeld HX7.out hn7 jx jy
        have r0 := HX7.out.at_ 0 rfl
        have r1 := HX7.out.at_ 1 rfl
        have f0 := HX7.out.soft 0
        have f1 := HX7.out.soft 1
        go_simp
        rw [← hZ]
        have HX7 := Lib.hid hXZ
        have HX8 := Lib.hid (hfZ _ _ _ (by first | exact hne | exact Ne.symm hne) HX8.out)
        clear hZ hXZ f0 f1 r0 r1 hfZ
        refine hK.out _ _ hsZ (fun hHeld => ?_)
        clear hsZ
        clear hK K
        try simp only [Act.put, List.getElem_toArray, List.getElem_cons_succ, List.getElem_cons_zero, List.setIfInBounds_toArray, List.set_cons_zero, List.set_cons_succ]
        refine wpAnyH_ready (rs := [9]) (by kernel_rfl) (by simp) ?_
        refine AllReadyH.cons rfl (fun K hK => ?_) (AllReadyH.nil)
        obtain ⟨Z, hZ, hsZ, hXZ, hfZ⟩ := lb_store hHeld HX8.out hn8 mx my
        have r0 := HX8.out.at_ 0 rfl
        have r1 := HX8.out.at_ 1 rfl
        have f0 := HX8.out.soft 0
        have f1 := HX8.out.soft 1
        go_simp
        rw [← hZ]
        have HX8 := Lib.hid hXZ
        have HX7 := Lib.hid (hfZ _ _ _ (by first | exact hne | exact Ne.symm hne) HX7.out)
        clear hZ hXZ f0 f1 r0 r1 hfZ
        refine hK.out _ _ hsZ (fun hHeld => ?_)
        clear hsZ
        clear hK K
        try simp only [Act.put, List.getElem_toArray, List.getElem_cons_succ, List.getElem_cons_zero, List.setIfInBounds_toArray, List.set_cons_zero, List.set_cons_succ]
        refine wpAnyH_done (by kernel_rfl) ?_ _
        exact NoPanic.normal (hQ _ _ _ _ _ _ _ _ _ HX7 HX8 (Lib.hid hHeld))
    · skip
      obtain ⟨U, b7, hU, hbn, hbU, hXU, hn7⟩ := lb_new hHeld
      go_simp
      try have hne := Nat.ne_of_lt (hbn ▸ HX8.out.lt)
      first | rw [← hU, ← hbn] | rw [show (W2.alloc (.cells #[.int .i64 0, .int .i64 0] 23)).drew = U from hU.symm, show W2.heap.size = b7 from hbn.symm]
      try have HX8 := Lib.hid (HX8.out.call hbU)
      have HX7 := Lib.hid hXU
      refine hK.out _ _ (hHeld.trans (hbU.mono hHeld.size)) (fun hHeld => ?_)
      clear hU hbn hbU hXU
      clear hK K
      try simp only [Act.put, List.getElem_toArray, List.getElem_cons_succ, List.getElem_cons_zero, List.setIfInBounds_toArray, List.set_cons_zero, List.set_cons_succ]
      refine wpAnyH_ready (rs := [2]) (by kernel_rfl) (by simp) ?_
      refine AllReadyH.cons rfl (fun K hK => ?_) (AllReadyH.nil)
      go_simp
      go_at_call 24
      refine (LabC.join_impl x1 y1 x2 y2 _).mono ?_
      rintro e v ⟨rfl, hb⟩
      rw [HJ.out]
      try have HX7 := Lib.hid (HX7.out.call hb)
      try have HX8 := Lib.hid (HX8.out.call hb)
      refine hK.out _ _ (hHeld.trans (hb.mono hHeld.size)) (fun hHeld => ?_)
      clear hb
      clear hK K
      try simp only [Act.put, List.getElem_toArray, List.getElem_cons_succ, List.getElem_cons_zero, List.setIfInBounds_toArray, List.set_cons_zero, List.set_cons_succ]
      refine wpAnyH_ready (rs := [5]) (by kernel_rfl) (by simp) ?_
      refine AllReadyH.cons rfl (fun K hK => ?_) (AllReadyH.nil)
      go_simp
      go_at_call 25
      refine (LabC.meet_impl x1 y1 x2 y2 _).mono ?_
      rintro e v ⟨rfl, hb⟩
      rw [HMM.out]
      try have HX7 := Lib.hid (HX7.out.call hb)
      try have HX8 := Lib.hid (HX8.out.call hb)
      refine hK.out _ _ (hHeld.trans (hb.mono hHeld.size)) (fun hHeld => ?_)
      clear hb
      clear hK K
      try simp only [Act.put, List.getElem_toArray, List.getElem_cons_succ, List.getElem_cons_zero, List.setIfInBounds_toArray, List.set_cons_zero, List.set_cons_succ]
      refine wpAnyH_ready (rs := [8]) (by kernel_rfl) (by simp) ?_
      refine AllReadyH.cons rfl (fun K hK => ?_) (AllReadyH.nil)
      obtain ⟨Z, hZ, hsZ, hXZ, hfZ⟩ := lb_store hHeld HX7.out hn7 jx jy
      have r0 := HX7.out.at_ 0 rfl
      have r1 := HX7.out.at_ 1 rfl
      have f0 := HX7.out.soft 0
      have f1 := HX7.out.soft 1
      go_simp
      rw [← hZ]
      have HX7 := Lib.hid hXZ
      have HX8 := Lib.hid (hfZ _ _ _ (by first | exact hne | exact Ne.symm hne) HX8.out)
      clear hZ hXZ f0 f1 r0 r1 hfZ
      refine hK.out _ _ hsZ (fun hHeld => ?_)
      clear hsZ
      clear hK K
      try simp only [Act.put, List.getElem_toArray, List.getElem_cons_succ, List.getElem_cons_zero, List.setIfInBounds_toArray, List.set_cons_zero, List.set_cons_succ]
      refine wpAnyH_ready (rs := [9]) (by kernel_rfl) (by simp) ?_
      refine AllReadyH.cons rfl (fun K hK => ?_) (AllReadyH.nil)
      obtain ⟨Z, hZ, hsZ, hXZ, hfZ⟩ := lb_store hHeld HX8.out hn8 mx my
      have r0 := HX8.out.at_ 0 rfl
      have r1 := HX8.out.at_ 1 rfl
      have f0 := HX8.out.soft 0
      have f1 := HX8.out.soft 1
      go_simp
      rw [← hZ]
      have HX8 := Lib.hid hXZ
      have HX7 := Lib.hid (hfZ _ _ _ (by first | exact hne | exact Ne.symm hne) HX7.out)
      clear hZ hXZ f0 f1 r0 r1 hfZ
      refine hK.out _ _ hsZ (fun hHeld => ?_)
      clear hsZ
      clear hK K
      try simp only [Act.put, List.getElem_toArray, List.getElem_cons_succ, List.getElem_cons_zero, List.setIfInBounds_toArray, List.set_cons_zero, List.set_cons_succ]
      refine wpAnyH_done (by kernel_rfl) ?_ _
      exact NoPanic.normal (hQ _ _ _ _ _ _ _ _ _ HX7 HX8 (Lib.hid hHeld))

set_option maxRecDepth 100000 in
set_option maxHeartbeats 4000000 in
theorem reg11 {w12 : World} {u : ByteArray} {L : List D_Label} {a : Option Addr} {c : Nat} {b5 b6 b7 b8 b9 b10 b11 b14 : Nat} {x1 y1 x2 y2 x3 y3 x4 y4 x5 y5 jx jy mx my l6 s6 c6 : Int} (HX5 : Hid (Blk w12 b5 23 #[.int .i64 x1, .int .i64 y1])) (HX6 : Hid (Blk w12 b6 23 #[.int .i64 x2, .int .i64 y2])) (HX7 : Hid (Blk w12 b7 23 #[.int .i64 jx, .int .i64 jy])) (HX8 : Hid (Blk w12 b8 23 #[.int .i64 mx, .int .i64 my])) (HX9 : Hid (Blk w12 b9 23 #[.int .i64 x3, .int .i64 y3])) (HX10 : Hid (Blk w12 b10 23 #[.int .i64 x4, .int .i64 y4])) (HX11 : Hid (Blk w12 b11 23 #[.int .i64 x5, .int .i64 y5])) (HX14 : Hid (Blk w12 b14 58 #[.int .i64 l6, .int .i64 s6, .int .i64 c6])) (HJ : Hid (joinV x1 y1 x2 y2 = .agg #[.int .i64 jx, .int .i64 jy])) (HMM : Hid (meetV x1 y1 x2 y2 = .agg #[.int .i64 mx, .int .i64 my])) (HP : Hid (ReadP u l6 s6 c6)) (hu : u.size ≤ 100) (HL : Hid (RdSl R_Label w12 w12.heap.size L a c)) {Q : Exit → Act → World → Prop} {z0 z1 z2 z3 z4 z16 z17 z18 z19 z20 z21 z22 z23 z24 z25 z26 z27 z28 z29 z30 z31 z32 z33 z34 z35 z36 z37 z38 z39 z40 z41 z42 z43 z44 z45 z46 z47 z48 z49 z50 z51 z52 z53 z54 z55 z56 z57 z58 z59 z60 z61 z62 z63 z64 z65 z66 z67 z68 z69 z70 z71 z72 z73 z74 z75 z76 z77 z78 z79 z80 z81 z82 z83 z84 z85 z86 z87 z88 z89 z90 z91 z92 z93 z94 z95 z96 z97 z98 z99 z100 z101 z102 z103 z104 z105 z106 z107 z108 z109 z110 z111 z112 z113 z114 z115 z116 z117 z118 z119 z120 z121 z122 z123 z124 z125 z126 z127 z128 z129 z130 z131 z132 z133 z134 z135 z136 z137 z138 z139 z140 z141 z142 z143 z144 z145 z146 z147 z148 z149 z150 z151 z152 z153 z154 z155 z156 z157 z158 z159 z160 z161 z162 z163 z164 z165 z166 z167 z168 z169 z170 z171 z172 z173 z174 z175 z176 z177 z178 z179 z180 z181 z182 z183 z184 z185 z186 z187 : Value}
    (hQ : ∀ (y50 y51 y52 y53 y54 y55 y56 y57 y58 y59 y60 y61 y62 y63 y64 y65 y66 y67 y68 y69 y70 y71 y72 y73 y74 y75 y76 y77 y78 y79 y80 y81 y82 y83 y84 y85 y86 y87 y88 y89 y90 y91 y92 y93 y94 y95 : Value)  (wx : World), Hid (Below w12.heap.size w12 wx) → Q .normal ⟨#[z0, z1, z2, z3, z4, .pointer (some ⟨b5, 0, none⟩), .pointer (some ⟨b6, 0, none⟩), .pointer (some ⟨b7, 0, none⟩), .pointer (some ⟨b8, 0, none⟩), .pointer (some ⟨b9, 0, none⟩), .pointer (some ⟨b10, 0, none⟩), .pointer (some ⟨b11, 0, none⟩), .string (textV x5 y5), .string u, .pointer (some ⟨b14, 0, none⟩), .slice a L.length c, z16, z17, z18, z19, z20, z21, z22, z23, z24, z25, z26, z27, z28, z29, z30, z31, z32, z33, z34, z35, z36, z37, z38, z39, z40, z41, z42, z43, z44, z45, z46, z47, z48, z49, y50, y51, y52, y53, y54, y55, y56, y57, y58, y59, y60, y61, y62, y63, y64, y65, y66, y67, y68, y69, y70, y71, y72, y73, y74, y75, y76, y77, y78, y79, y80, y81, y82, y83, y84, y85, y86, y87, y88, y89, y90, y91, y92, y93, y94, y95, .bool false, z97, z98, z99, z100, z101, z102, z103, z104, z105, z106, z107, z108, z109, z110, z111, z112, z113, z114, z115, z116, z117, z118, z119, z120, z121, z122, z123, z124, z125, z126, z127, z128, z129, z130, z131, z132, z133, z134, z135, z136, z137, z138, z139, z140, z141, z142, z143, z144, z145, z146, z147, z148, z149, z150, z151, z152, z153, z154, z155, z156, z157, z158, z159, z160, z161, z162, z163, z164, z165, z166, z167, z168, z169, z170, z171, z172, z173, z174, z175, z176, z177, z178, z179, z180, z181, z182, z183, z184, z185, z186, z187], []⟩ wx) :
    Code.wp Tryd.prog R11 Q ⟨#[z0, z1, z2, z3, z4, .pointer (some ⟨b5, 0, none⟩), .pointer (some ⟨b6, 0, none⟩), .pointer (some ⟨b7, 0, none⟩), .pointer (some ⟨b8, 0, none⟩), .pointer (some ⟨b9, 0, none⟩), .pointer (some ⟨b10, 0, none⟩), .pointer (some ⟨b11, 0, none⟩), .string (textV x5 y5), .string u, .pointer (some ⟨b14, 0, none⟩), .slice a L.length c, z16, z17, z18, z19, z20, z21, z22, z23, z24, z25, z26, z27, z28, z29, z30, z31, z32, z33, z34, z35, z36, z37, z38, z39, z40, z41, z42, z43, z44, z45, z46, z47, z48, z49, z50, z51, z52, z53, z54, z55, z56, z57, z58, z59, z60, z61, z62, z63, z64, z65, z66, z67, z68, z69, z70, z71, z72, z73, z74, z75, z76, z77, z78, z79, z80, z81, z82, z83, z84, z85, z86, z87, z88, z89, z90, z91, z92, z93, z94, z95, z96, z97, z98, z99, z100, z101, z102, z103, z104, z105, z106, z107, z108, z109, z110, z111, z112, z113, z114, z115, z116, z117, z118, z119, z120, z121, z122, z123, z124, z125, z126, z127, z128, z129, z130, z131, z132, z133, z134, z135, z136, z137, z138, z139, z140, z141, z142, z143, z144, z145, z146, z147, z148, z149, z150, z151, z152, z153, z154, z155, z156, z157, z158, z159, z160, z161, z162, z163, z164, z165, z166, z167, z168, z169, z170, z171, z172, z173, z174, z175, z176, z177, z178, z179, z180, z181, z182, z183, z184, z185, z186, z187], []⟩ w12 := by
  conv => arg 2; whnf
  refine wp_region_noPanic ?_
  refine wp_region_held_drew (S := (fun V => Below (w12).heap.size (w12) V)) (by kernel_rfl) ((Below.refl _ _).drew) (fun hHeld => ?_)
  (refine wpAnyH_take (i := 0) (v := ?hv119) rfl (by kernel_rfl) (by kernel_rfl) (by kernel_rfl) (fun _ _ _ h => h) (Or.inl ⟨by kernel_rfl, ?hy119⟩) hHeld ?hr119; case hy119 => (intro w hSw; (try dsimp only at hSw); have k0 := (hSw.cell (p := ⟨b7, 0, none⟩) HX7.out.lt).trans (HX7.out.at_ 0 rfl); have k1 := (hSw.cell (p := ⟨b7, 1, none⟩) HX7.out.lt).trans (HX7.out.at_ 1 rfl); clear hSw; go_simp; try with_reducible rfl))
  simp only [Act.put, List.getElem_toArray, List.getElem_cons_succ, List.getElem_cons_zero, List.setIfInBounds_toArray, List.set_cons_zero, List.set_cons_succ]
  (refine wpAnyH_take (i := 1) (v := ?hv120) rfl (by kernel_rfl) (by kernel_rfl) (by kernel_rfl) (fun _ _ _ h => h) (Or.inl ⟨by kernel_rfl, ?hy120⟩) hHeld ?hr120; case hy120 => (intro w hSw; (try dsimp only at hSw); have k0 := (hSw.cell (p := ⟨b5, 0, none⟩) HX5.out.lt).trans (HX5.out.at_ 0 rfl); have k1 := (hSw.cell (p := ⟨b5, 1, none⟩) HX5.out.lt).trans (HX5.out.at_ 1 rfl); clear hSw; go_simp; try with_reducible rfl))
  simp only [Act.put, List.getElem_toArray, List.getElem_cons_succ, List.getElem_cons_zero, List.setIfInBounds_toArray, List.set_cons_zero, List.set_cons_succ]
  (refine wpAnyH_take (i := 2) (v := ?hv121) rfl (by kernel_rfl) (by kernel_rfl) (by kernel_rfl) (fun _ _ _ h => h) (Or.inl ⟨by kernel_rfl, ?hy121⟩) hHeld ?hr121; case hy121 => (intro w hSw; (try dsimp only at hSw); have k0 := (hSw.cell (p := ⟨b6, 0, none⟩) HX6.out.lt).trans (HX6.out.at_ 0 rfl); have k1 := (hSw.cell (p := ⟨b6, 1, none⟩) HX6.out.lt).trans (HX6.out.at_ 1 rfl); clear hSw; go_simp; try with_reducible rfl))
  simp only [Act.put, List.getElem_toArray, List.getElem_cons_succ, List.getElem_cons_zero, List.setIfInBounds_toArray, List.set_cons_zero, List.set_cons_succ]
  refine wpAnyH_ready (rs := [3]) (by kernel_rfl) (by simp) ?_
  refine AllReadyH.cons rfl (fun K hK => ?_) AllReadyH.nil
  go_simp
  go_at_call 32
  refine (LabC.join_spec x1 y1 x2 y2 _).mono ?_
  rintro e v ⟨rfl, hb⟩
  rw [HJ.out]
  refine hK.out _ _ (hHeld.trans (hb.mono hHeld.size)) (fun hHeld => ?_)
  clear hK K hb
  try simp only [Act.put, List.getElem_toArray, List.getElem_cons_succ, List.getElem_cons_zero, List.setIfInBounds_toArray, List.set_cons_zero, List.set_cons_succ]
  (refine wpAnyH_take (i := 4) (v := ?hv122) rfl (by kernel_rfl) (by kernel_rfl) (by kernel_rfl) (fun _ _ _ h => h) (Or.inl ⟨by kernel_rfl, ?hy122⟩) hHeld ?hr122; case hy122 => (intro w hSw; (try dsimp only at hSw); go_simp; try with_reducible rfl))
  simp only [Act.put, List.getElem_toArray, List.getElem_cons_succ, List.getElem_cons_zero, List.setIfInBounds_toArray, List.set_cons_zero, List.set_cons_succ]
  (refine wpAnyH_take (i := 5) (v := ?hv123) rfl (by kernel_rfl) (by kernel_rfl) (by kernel_rfl) (fun _ _ _ h => h) (Or.inl ⟨by kernel_rfl, ?hy123⟩) hHeld ?hr123; case hy123 => (intro w hSw; (try dsimp only at hSw); go_simp; try with_reducible rfl))
  simp only [Act.put, List.getElem_toArray, List.getElem_cons_succ, List.getElem_cons_zero, List.setIfInBounds_toArray, List.set_cons_zero, List.set_cons_succ]
  (refine wpAnyH_take (i := 6) (v := ?hv124) rfl (by kernel_rfl) (by kernel_rfl) (by kernel_rfl) (fun _ _ _ h => h) (Or.inl ⟨by kernel_rfl, ?hy124⟩) hHeld ?hr124; case hy124 => (intro w hSw; (try dsimp only at hSw); have k0 := (hSw.cell (p := ⟨b8, 0, none⟩) HX8.out.lt).trans (HX8.out.at_ 0 rfl); have k1 := (hSw.cell (p := ⟨b8, 1, none⟩) HX8.out.lt).trans (HX8.out.at_ 1 rfl); clear hSw; go_simp; try with_reducible rfl))
  simp only [Act.put, List.getElem_toArray, List.getElem_cons_succ, List.getElem_cons_zero, List.setIfInBounds_toArray, List.set_cons_zero, List.set_cons_succ]
  (refine wpAnyH_take (i := 7) (v := ?hv125) rfl (by kernel_rfl) (by kernel_rfl) (by kernel_rfl) (fun _ _ _ h => h) (Or.inl ⟨by kernel_rfl, ?hy125⟩) hHeld ?hr125; case hy125 => (intro w hSw; (try dsimp only at hSw); have k0 := (hSw.cell (p := ⟨b5, 0, none⟩) HX5.out.lt).trans (HX5.out.at_ 0 rfl); have k1 := (hSw.cell (p := ⟨b5, 1, none⟩) HX5.out.lt).trans (HX5.out.at_ 1 rfl); clear hSw; go_simp; try with_reducible rfl))
  simp only [Act.put, List.getElem_toArray, List.getElem_cons_succ, List.getElem_cons_zero, List.setIfInBounds_toArray, List.set_cons_zero, List.set_cons_succ]
  (refine wpAnyH_take (i := 8) (v := ?hv126) rfl (by kernel_rfl) (by kernel_rfl) (by kernel_rfl) (fun _ _ _ h => h) (Or.inl ⟨by kernel_rfl, ?hy126⟩) hHeld ?hr126; case hy126 => (intro w hSw; (try dsimp only at hSw); have k0 := (hSw.cell (p := ⟨b6, 0, none⟩) HX6.out.lt).trans (HX6.out.at_ 0 rfl); have k1 := (hSw.cell (p := ⟨b6, 1, none⟩) HX6.out.lt).trans (HX6.out.at_ 1 rfl); clear hSw; go_simp; try with_reducible rfl))
  simp only [Act.put, List.getElem_toArray, List.getElem_cons_succ, List.getElem_cons_zero, List.setIfInBounds_toArray, List.set_cons_zero, List.set_cons_succ]
  refine wpAnyH_ready (rs := [9]) (by kernel_rfl) (by simp) ?_
  refine AllReadyH.cons rfl (fun K hK => ?_) AllReadyH.nil
  go_simp
  go_at_call 33
  refine (LabC.meet_spec x1 y1 x2 y2 _).mono ?_
  rintro e v ⟨rfl, hb⟩
  rw [HMM.out]
  refine hK.out _ _ (hHeld.trans (hb.mono hHeld.size)) (fun hHeld => ?_)
  clear hK K hb
  try simp only [Act.put, List.getElem_toArray, List.getElem_cons_succ, List.getElem_cons_zero, List.setIfInBounds_toArray, List.set_cons_zero, List.set_cons_succ]
  (refine wpAnyH_take (i := 10) (v := ?hv127) rfl (by kernel_rfl) (by kernel_rfl) (by kernel_rfl) (fun _ _ _ h => h) (Or.inl ⟨by kernel_rfl, ?hy127⟩) hHeld ?hr127; case hy127 => (intro w hSw; (try dsimp only at hSw); go_simp; try with_reducible rfl))
  simp only [Act.put, List.getElem_toArray, List.getElem_cons_succ, List.getElem_cons_zero, List.setIfInBounds_toArray, List.set_cons_zero, List.set_cons_succ]
  (refine wpAnyH_take (i := 11) (v := ?hv128) rfl (by kernel_rfl) (by kernel_rfl) (by kernel_rfl) (fun _ _ _ h => h) (Or.inl ⟨by kernel_rfl, ?hy128⟩) hHeld ?hr128; case hy128 => (intro w hSw; (try dsimp only at hSw); go_simp; try with_reducible rfl))
  simp only [Act.put, List.getElem_toArray, List.getElem_cons_succ, List.getElem_cons_zero, List.setIfInBounds_toArray, List.set_cons_zero, List.set_cons_succ]
  (refine wpAnyH_take (i := 12) (v := ?hv129) rfl (by kernel_rfl) (by kernel_rfl) (by kernel_rfl) (fun _ _ _ h => h) (Or.inl ⟨by kernel_rfl, ?hy129⟩) hHeld ?hr129; case hy129 => (intro w hSw; (try dsimp only at hSw); go_simp; try with_reducible rfl))
  simp only [Act.put, List.getElem_toArray, List.getElem_cons_succ, List.getElem_cons_zero, List.setIfInBounds_toArray, List.set_cons_zero, List.set_cons_succ]
  (refine wpAnyH_take (i := 13) (v := ?hv130) rfl (by kernel_rfl) (by kernel_rfl) (by kernel_rfl) (fun _ _ _ h => h) (Or.inl ⟨by kernel_rfl, ?hy130⟩) hHeld ?hr130; case hy130 => (intro w hSw; (try dsimp only at hSw); have k0 := (hSw.cell (p := ⟨b9, 0, none⟩) HX9.out.lt).trans (HX9.out.at_ 0 rfl); have k1 := (hSw.cell (p := ⟨b9, 1, none⟩) HX9.out.lt).trans (HX9.out.at_ 1 rfl); clear hSw; go_simp; try with_reducible rfl))
  simp only [Act.put, List.getElem_toArray, List.getElem_cons_succ, List.getElem_cons_zero, List.setIfInBounds_toArray, List.set_cons_zero, List.set_cons_succ]
  (refine wpAnyH_take (i := 14) (v := ?hv131) rfl (by kernel_rfl) (by kernel_rfl) (by kernel_rfl) (fun _ _ _ h => h) (Or.inl ⟨by kernel_rfl, ?hy131⟩) hHeld ?hr131; case hy131 => (intro w hSw; (try dsimp only at hSw); have k0 := (hSw.cell (p := ⟨b10, 0, none⟩) HX10.out.lt).trans (HX10.out.at_ 0 rfl); have k1 := (hSw.cell (p := ⟨b10, 1, none⟩) HX10.out.lt).trans (HX10.out.at_ 1 rfl); clear hSw; go_simp; try with_reducible rfl))
  simp only [Act.put, List.getElem_toArray, List.getElem_cons_succ, List.getElem_cons_zero, List.setIfInBounds_toArray, List.set_cons_zero, List.set_cons_succ]
  (refine wpAnyH_take (i := 16) (v := ?hv132) rfl (by kernel_rfl) (by kernel_rfl) (by kernel_rfl) (fun _ _ _ h => h) (Or.inl ⟨by kernel_rfl, ?hy132⟩) hHeld ?hr132; case hy132 => (intro w hSw; (try dsimp only at hSw); have k0 := (hSw.cell (p := ⟨b9, 0, none⟩) HX9.out.lt).trans (HX9.out.at_ 0 rfl); have k1 := (hSw.cell (p := ⟨b9, 1, none⟩) HX9.out.lt).trans (HX9.out.at_ 1 rfl); clear hSw; go_simp; try with_reducible rfl))
  simp only [Act.put, List.getElem_toArray, List.getElem_cons_succ, List.getElem_cons_zero, List.setIfInBounds_toArray, List.set_cons_zero, List.set_cons_succ]
  (refine wpAnyH_take (i := 17) (v := ?hv133) rfl (by kernel_rfl) (by kernel_rfl) (by kernel_rfl) (fun _ _ _ h => h) (Or.inl ⟨by kernel_rfl, ?hy133⟩) hHeld ?hr133; case hy133 => (intro w hSw; (try dsimp only at hSw); have k0 := (hSw.cell (p := ⟨b10, 0, none⟩) HX10.out.lt).trans (HX10.out.at_ 0 rfl); have k1 := (hSw.cell (p := ⟨b10, 1, none⟩) HX10.out.lt).trans (HX10.out.at_ 1 rfl); clear hSw; go_simp; try with_reducible rfl))
  simp only [Act.put, List.getElem_toArray, List.getElem_cons_succ, List.getElem_cons_zero, List.setIfInBounds_toArray, List.set_cons_zero, List.set_cons_succ]
  refine wpAnyH_ready (rs := [15]) (by kernel_rfl) (by simp) ?_
  refine AllReadyH.cons rfl (fun K hK => ?_) AllReadyH.nil
  go_simp
  go_at_call 34
  refine (LabC.below_impl x3 y3 x4 y4 _).mono ?_
  rintro e v ⟨rfl, hb⟩
  refine hK.out _ _ (hHeld.trans (hb.mono hHeld.size)) (fun hHeld => ?_)
  clear hK K hb
  try simp only [Act.put, List.getElem_toArray, List.getElem_cons_succ, List.getElem_cons_zero, List.setIfInBounds_toArray, List.set_cons_zero, List.set_cons_succ]
  refine wpAnyH_ready (rs := [18]) (by kernel_rfl) (by simp) ?_
  refine AllReadyH.cons rfl (fun K hK => ?_) AllReadyH.nil
  go_simp
  go_at_call 35
  refine (LabC.below_spec x3 y3 x4 y4 _).mono ?_
  rintro e v ⟨rfl, hb⟩
  refine hK.out _ _ (hHeld.trans (hb.mono hHeld.size)) (fun hHeld => ?_)
  clear hK K hb
  try simp only [Act.put, List.getElem_toArray, List.getElem_cons_succ, List.getElem_cons_zero, List.setIfInBounds_toArray, List.set_cons_zero, List.set_cons_succ]
  (refine wpAnyH_take (i := 19) (v := ?hv134) rfl (by kernel_rfl) (by kernel_rfl) (by kernel_rfl) (fun _ _ _ h => h) (Or.inl ⟨by kernel_rfl, ?hy134⟩) hHeld ?hr134; case hy134 => (intro w hSw; (try dsimp only at hSw); go_simp; try with_reducible rfl))
  simp only [Act.put, List.getElem_toArray, List.getElem_cons_succ, List.getElem_cons_zero, List.setIfInBounds_toArray, List.set_cons_zero, List.set_cons_succ]
  (refine wpAnyH_take (i := 20) (v := ?hv135) rfl (by kernel_rfl) (by kernel_rfl) (by kernel_rfl) (fun _ _ _ h => h) (Or.inl ⟨by kernel_rfl, ?hy135⟩) hHeld ?hr135; case hy135 => (intro w hSw; (try dsimp only at hSw); go_simp; try with_reducible rfl))
  simp only [Act.put, List.getElem_toArray, List.getElem_cons_succ, List.getElem_cons_zero, List.setIfInBounds_toArray, List.set_cons_zero, List.set_cons_succ]
  (refine wpAnyH_take (i := 21) (v := ?hv136) rfl (by kernel_rfl) (by kernel_rfl) (by kernel_rfl) (fun _ _ _ h => h) (Or.inl ⟨by kernel_rfl, ?hy136⟩) hHeld ?hr136; case hy136 => (intro w hSw; (try dsimp only at hSw); go_simp; try with_reducible rfl))
  simp only [Act.put, List.getElem_toArray, List.getElem_cons_succ, List.getElem_cons_zero, List.setIfInBounds_toArray, List.set_cons_zero, List.set_cons_succ]
  (refine wpAnyH_take (i := 22) (v := ?hv137) rfl (by kernel_rfl) (by kernel_rfl) (by kernel_rfl) (fun _ _ _ h => h) (Or.inl ⟨by kernel_rfl, ?hy137⟩) hHeld ?hr137; case hy137 => (intro w hSw; (try dsimp only at hSw); go_simp; try with_reducible rfl))
  simp only [Act.put, List.getElem_toArray, List.getElem_cons_succ, List.getElem_cons_zero, List.setIfInBounds_toArray, List.set_cons_zero, List.set_cons_succ]
  (refine wpAnyH_take (i := 23) (v := ?hv138) rfl (by kernel_rfl) (by kernel_rfl) (by kernel_rfl) (fun _ _ _ h => h) (Or.inl ⟨by kernel_rfl, ?hy138⟩) hHeld ?hr138; case hy138 => (intro w hSw; (try dsimp only at hSw); have k0 := (hSw.cell (p := ⟨b11, 0, none⟩) HX11.out.lt).trans (HX11.out.at_ 0 rfl); have k1 := (hSw.cell (p := ⟨b11, 1, none⟩) HX11.out.lt).trans (HX11.out.at_ 1 rfl); clear hSw; go_simp; try with_reducible rfl))
  simp only [Act.put, List.getElem_toArray, List.getElem_cons_succ, List.getElem_cons_zero, List.setIfInBounds_toArray, List.set_cons_zero, List.set_cons_succ]
  refine wpAnyH_ready (rs := [24]) (by kernel_rfl) (by simp) ?_
  refine AllReadyH.cons rfl (fun K hK => ?_) AllReadyH.nil
  go_simp
  go_at_call 36
  refine (ts_w x5 y5 _).mono ?_
  rintro e v ⟨rfl, hb⟩
  refine hK.out _ _ (hHeld.trans (hb.mono hHeld.size)) (fun hHeld => ?_)
  clear hK K hb
  try simp only [Act.put, List.getElem_toArray, List.getElem_cons_succ, List.getElem_cons_zero, List.setIfInBounds_toArray, List.set_cons_zero, List.set_cons_succ]
  (refine wpAnyH_take (i := 25) (v := ?hv139) rfl (by kernel_rfl) (by kernel_rfl) (by kernel_rfl) (fun _ _ _ h => h) (Or.inl ⟨by kernel_rfl, ?hy139⟩) hHeld ?hr139; case hy139 => (intro w hSw; (try dsimp only at hSw); go_simp; try with_reducible rfl))
  simp only [Act.put, List.getElem_toArray, List.getElem_cons_succ, List.getElem_cons_zero, List.setIfInBounds_toArray, List.set_cons_zero, List.set_cons_succ]
  (refine wpAnyH_take (i := 26) (v := ?hv140) rfl (by kernel_rfl) (by kernel_rfl) (by kernel_rfl) (fun _ _ _ h => h) (Or.inl ⟨by kernel_rfl, ?hy140⟩) hHeld ?hr140; case hy140 => (intro w hSw; (try dsimp only at hSw); go_simp; try with_reducible rfl))
  simp only [Act.put, List.getElem_toArray, List.getElem_cons_succ, List.getElem_cons_zero, List.setIfInBounds_toArray, List.set_cons_zero, List.set_cons_succ]
  (refine wpAnyH_take (i := 27) (v := ?hv141) rfl (by kernel_rfl) (by kernel_rfl) (by kernel_rfl) (fun _ _ _ h => h) (Or.inl ⟨by kernel_rfl, ?hy141⟩) hHeld ?hr141; case hy141 => (intro w hSw; (try dsimp only at hSw); go_simp; try with_reducible rfl))
  simp only [Act.put, List.getElem_toArray, List.getElem_cons_succ, List.getElem_cons_zero, List.setIfInBounds_toArray, List.set_cons_zero, List.set_cons_succ]
  (refine wpAnyH_take (i := 28) (v := ?hv142) rfl (by kernel_rfl) (by kernel_rfl) (by kernel_rfl) (fun _ _ _ h => h) (Or.inl ⟨by kernel_rfl, ?hy142⟩) hHeld ?hr142; case hy142 => (intro w hSw; (try dsimp only at hSw); have k0 := (hSw.cell (p := ⟨b14, 0, none⟩) HX14.out.lt).trans (HX14.out.at_ 0 rfl); have k1 := (hSw.cell (p := ⟨b14, 1, none⟩) HX14.out.lt).trans (HX14.out.at_ 1 rfl); have k2 := (hSw.cell (p := ⟨b14, 2, none⟩) HX14.out.lt).trans (HX14.out.at_ 2 rfl); clear hSw; go_simp; try with_reducible rfl))
  simp only [Act.put, List.getElem_toArray, List.getElem_cons_succ, List.getElem_cons_zero, List.setIfInBounds_toArray, List.set_cons_zero, List.set_cons_succ]
  (refine wpAnyH_take (i := 29) (v := ?hv143) rfl (by kernel_rfl) (by kernel_rfl) (by kernel_rfl) (fun _ _ _ h => h) (Or.inl ⟨by kernel_rfl, ?hy143⟩) hHeld ?hr143; case hy143 => (intro w hSw; (try dsimp only at hSw); go_simp; try with_reducible rfl))
  simp only [Act.put, List.getElem_toArray, List.getElem_cons_succ, List.getElem_cons_zero, List.setIfInBounds_toArray, List.set_cons_zero, List.set_cons_succ]
  refine wpAnyH_ready (rs := [30]) (by kernel_rfl) (by simp) ?_
  refine AllReadyH.cons rfl (fun K hK => ?_) AllReadyH.nil
  go_simp
  go_at_call 37
  refine (read_spec u _ (by omega)).mono ?_
  intro e v h
  obtain ⟨l7, s7, c7, rfl, hP7, hb⟩ := readR_elim h
  obtain ⟨rfl, rfl, rfl⟩ := read_one HP.out hP7
  clear h hP7
  refine hK.out _ _ (hHeld.trans (hb.mono hHeld.size)) (fun hHeld => ?_)
  clear hK K hb
  try simp only [Act.put, List.getElem_toArray, List.getElem_cons_succ, List.getElem_cons_zero, List.setIfInBounds_toArray, List.set_cons_zero, List.set_cons_succ]
  (refine wpAnyH_take (i := 31) (v := ?hv144) rfl (by kernel_rfl) (by kernel_rfl) (by kernel_rfl) (fun _ _ _ h => h) (Or.inl ⟨by kernel_rfl, ?hy144⟩) hHeld ?hr144; case hy144 => (intro w hSw; (try dsimp only at hSw); go_simp; try with_reducible rfl))
  simp only [Act.put, List.getElem_toArray, List.getElem_cons_succ, List.getElem_cons_zero, List.setIfInBounds_toArray, List.set_cons_zero, List.set_cons_succ]
  (refine wpAnyH_take (i := 32) (v := ?hv145) rfl (by kernel_rfl) (by kernel_rfl) (by kernel_rfl) (fun _ _ _ h => h) (Or.inl ⟨by kernel_rfl, ?hy145⟩) hHeld ?hr145; case hy145 => (intro w hSw; (try dsimp only at hSw); go_simp; try with_reducible rfl))
  simp only [Act.put, List.getElem_toArray, List.getElem_cons_succ, List.getElem_cons_zero, List.setIfInBounds_toArray, List.set_cons_zero, List.set_cons_succ]
  (refine wpAnyH_take (i := 33) (v := ?hv146) rfl (by kernel_rfl) (by kernel_rfl) (by kernel_rfl) (fun _ _ _ h => h) (Or.inl ⟨by kernel_rfl, ?hy146⟩) hHeld ?hr146; case hy146 => (intro w hSw; (try dsimp only at hSw); go_simp; try with_reducible rfl))
  simp only [Act.put, List.getElem_toArray, List.getElem_cons_succ, List.getElem_cons_zero, List.setIfInBounds_toArray, List.set_cons_zero, List.set_cons_succ]
  (refine wpAnyH_take (i := 34) (v := ?hv147) rfl (by kernel_rfl) (by kernel_rfl) (by kernel_rfl) (fun _ _ _ h => h) (Or.inl ⟨by kernel_rfl, ?hy147⟩) hHeld ?hr147; case hy147 => (intro w hSw; (try dsimp only at hSw); go_simp; try with_reducible rfl))
  simp only [Act.put, List.getElem_toArray, List.getElem_cons_succ, List.getElem_cons_zero, List.setIfInBounds_toArray, List.set_cons_zero, List.set_cons_succ]
  (refine wpAnyH_take (i := 36) (v := ?hv148) rfl (by kernel_rfl) (by kernel_rfl) (by kernel_rfl) (fun _ _ _ h => h) (Or.inl ⟨by kernel_rfl, ?hy148⟩) hHeld ?hr148; case hy148 => (intro w hSw; (try dsimp only at hSw); go_simp; try with_reducible rfl))
  simp only [Act.put, List.getElem_toArray, List.getElem_cons_succ, List.getElem_cons_zero, List.setIfInBounds_toArray, List.set_cons_zero, List.set_cons_succ]
  refine wpAnyH_ready (rs := [35]) (by kernel_rfl) (by simp) ?_
  refine AllReadyH.cons rfl (fun K hK => ?_) AllReadyH.nil
  go_simp
  go_at_call 38
  refine (chain_im (rdl_mv R_Label_ok HL.out hHeld)).mono ?_
  intro e v h
  obtain ⟨b1, rfl, hb1, hb⟩ := resB_elim h
  have HBB := Lib.hid hb1
  clear h hb1
  refine hK.out _ _ (hHeld.trans (hb.mono hHeld.size)) (fun hHeld => ?_)
  clear hK K hb
  try simp only [Act.put, List.getElem_toArray, List.getElem_cons_succ, List.getElem_cons_zero, List.setIfInBounds_toArray, List.set_cons_zero, List.set_cons_succ]
  refine wpAnyH_ready (rs := [37]) (by kernel_rfl) (by simp) ?_
  refine AllReadyH.cons rfl (fun K hK => ?_) AllReadyH.nil
  go_simp
  go_at_call 39
  refine (chain_rd (rdl_mv R_Label_ok HL.out hHeld)).mono ?_
  intro e v h
  obtain ⟨b2, rfl, hb2, hb⟩ := resB_elim h
  obtain rfl : b1 = b2 := Bool.eq_iff_iff.2 (HBB.out.trans hb2.symm)
  clear h hb2
  refine hK.out _ _ (hHeld.trans (hb.mono hHeld.size)) (fun hHeld => ?_)
  clear hK K hb
  try simp only [Act.put, List.getElem_toArray, List.getElem_cons_succ, List.getElem_cons_zero, List.setIfInBounds_toArray, List.set_cons_zero, List.set_cons_succ]
  (refine wpAnyH_take (i := 38) (v := ?hv149) rfl (by kernel_rfl) (by kernel_rfl) (by kernel_rfl) (fun _ _ _ h => h) (Or.inl ⟨by kernel_rfl, ?hy149⟩) hHeld ?hr149; case hy149 => (intro w hSw; (try dsimp only at hSw); go_simp; try with_reducible rfl))
  simp only [Act.put, List.getElem_toArray, List.getElem_cons_succ, List.getElem_cons_zero, List.setIfInBounds_toArray, List.set_cons_zero, List.set_cons_succ]
  (refine wpAnyH_take (i := 39) (v := ?hv150) rfl (by kernel_rfl) (by kernel_rfl) (by kernel_rfl) (fun _ _ _ h => h) (Or.inl ⟨by kernel_rfl, ?hy150⟩) hHeld ?hr150; case hy150 => (intro w hSw; (try dsimp only at hSw); go_simp; try with_reducible rfl))
  simp only [Act.put, List.getElem_toArray, List.getElem_cons_succ, List.getElem_cons_zero, List.setIfInBounds_toArray, List.set_cons_zero, List.set_cons_succ]
  (refine wpAnyH_take (i := 40) (v := ?hv151) rfl (by kernel_rfl) (by kernel_rfl) (by kernel_rfl) (fun _ _ _ h => h) (Or.inl ⟨by kernel_rfl, ?hy151⟩) hHeld ?hr151; case hy151 => (intro w hSw; (try dsimp only at hSw); go_simp; try with_reducible rfl))
  simp only [Act.put, List.getElem_toArray, List.getElem_cons_succ, List.getElem_cons_zero, List.setIfInBounds_toArray, List.set_cons_zero, List.set_cons_succ]
  (refine wpAnyH_take (i := 41) (v := ?hv152) rfl (by kernel_rfl) (by kernel_rfl) (by kernel_rfl) (fun _ _ _ h => h) (Or.inl ⟨by kernel_rfl, ?hy152⟩) hHeld ?hr152; case hy152 => (intro w hSw; (try dsimp only at hSw); have k0 := (hSw.cell (p := ⟨b5, 0, none⟩) HX5.out.lt).trans (HX5.out.at_ 0 rfl); have k1 := (hSw.cell (p := ⟨b5, 1, none⟩) HX5.out.lt).trans (HX5.out.at_ 1 rfl); clear hSw; go_simp; try with_reducible rfl))
  simp only [Act.put, List.getElem_toArray, List.getElem_cons_succ, List.getElem_cons_zero, List.setIfInBounds_toArray, List.set_cons_zero, List.set_cons_succ]
  (refine wpAnyH_take (i := 43) (v := ?hv153) rfl (by kernel_rfl) (by kernel_rfl) (by kernel_rfl) (fun _ _ _ h => h) (Or.inl ⟨by kernel_rfl, ?hy153⟩) hHeld ?hr153; case hy153 => (intro w hSw; (try dsimp only at hSw); have k0 := (hSw.cell (p := ⟨b5, 0, none⟩) HX5.out.lt).trans (HX5.out.at_ 0 rfl); have k1 := (hSw.cell (p := ⟨b5, 1, none⟩) HX5.out.lt).trans (HX5.out.at_ 1 rfl); clear hSw; go_simp; try with_reducible rfl))
  simp only [Act.put, List.getElem_toArray, List.getElem_cons_succ, List.getElem_cons_zero, List.setIfInBounds_toArray, List.set_cons_zero, List.set_cons_succ]
  refine wpAnyH_ready (rs := [42]) (by kernel_rfl) (by simp) ?_
  refine AllReadyH.cons rfl (fun K hK => ?_) AllReadyH.nil
  go_simp
  go_at_call 40
  refine (ri_w x1 y1 _).mono ?_
  rintro e v ⟨rfl, hb⟩
  refine hK.out _ _ (hHeld.trans (hb.mono hHeld.size)) (fun hHeld => ?_)
  clear hK K hb
  try simp only [Act.put, List.getElem_toArray, List.getElem_cons_succ, List.getElem_cons_zero, List.setIfInBounds_toArray, List.set_cons_zero, List.set_cons_succ]
  refine wpAnyH_ready (rs := [44]) (by kernel_rfl) (by simp) ?_
  refine AllReadyH.cons rfl (fun K hK => ?_) AllReadyH.nil
  go_simp
  go_at_call 41
  refine (rs_w x1 y1 _).mono ?_
  rintro e v ⟨rfl, hb⟩
  refine hK.out _ _ (hHeld.trans (hb.mono hHeld.size)) (fun hHeld => ?_)
  clear hK K hb
  try simp only [Act.put, List.getElem_toArray, List.getElem_cons_succ, List.getElem_cons_zero, List.setIfInBounds_toArray, List.set_cons_zero, List.set_cons_succ]
  (refine wpAnyH_take (i := 45) (v := ?hv154) rfl (by kernel_rfl) (by kernel_rfl) (by kernel_rfl) (fun _ _ _ h => h) (Or.inl ⟨by kernel_rfl, ?hy154⟩) hHeld ?hr154; case hy154 => (intro w hSw; (try dsimp only at hSw); go_simp; try with_reducible rfl))
  simp only [Act.put, List.getElem_toArray, List.getElem_cons_succ, List.getElem_cons_zero, List.setIfInBounds_toArray, List.set_cons_zero, List.set_cons_succ]
  (refine wpAnyH_take (i := 46) (v := ?hv155) rfl (by kernel_rfl) (by kernel_rfl) (by kernel_rfl) (fun _ _ _ h => h) (Or.inl ⟨by kernel_rfl, ?hy155⟩) hHeld ?hr155; case hy155 => (intro w hSw; (try dsimp only at hSw); go_simp; try with_reducible rfl))
  simp only [Act.put, List.getElem_toArray, List.getElem_cons_succ, List.getElem_cons_zero, List.setIfInBounds_toArray, List.set_cons_zero, List.set_cons_succ]
  refine wpAnyH_done (by kernel_rfl) ?_ _
  have HF := Lib.hid hHeld
  clear hHeld
  exact NoPanic.normal (hQ _ _ _ _ _ _ _ _ _ _ _ _ _ _ _ _ _ _ _ _ _ _ _ _ _ _ _ _ _ _ _ _ _ _ _ _ _ _ _ _ _ _ _ _ _ _ _ HF)

set_option maxRecDepth 100000 in
set_option maxHeartbeats 4000000 in
theorem reg13 {v : World} {T u : ByteArray} {b11 b14 : Nat} {x5 y5 l6 s6 c6 : Int} (HX11 : Hid (Blk v b11 23 #[.int .i64 x5, .int .i64 y5])) (HX14 : Hid (Blk v b14 58 #[.int .i64 l6, .int .i64 s6, .int .i64 c6])) (HD : Hid (Door v)) (h0W : 0 < v.heap.size) (HT : Hid (T = textV x5 y5)) (HTS : Hid (T.size ≤ 1048576)) (HP : Hid (ReadP u l6 s6 c6)) {Q : Exit → Act → World → Prop} {z0 z1 z2 z3 z4 z5 z6 z7 z8 z9 z10 z15 z16 z17 z18 z19 z20 z21 z22 z23 z24 z25 z26 z27 z28 z29 z30 z31 z32 z33 z34 z35 z36 z37 z38 z39 z40 z41 z42 z43 z44 z45 z46 z47 z48 z49 z50 z51 z52 z53 z54 z55 z56 z57 z58 z59 z60 z61 z62 z63 z64 z65 z66 z67 z68 z69 z70 z71 z72 z73 z74 z75 z76 z77 z78 z79 z80 z81 z82 z83 z84 z85 z86 z87 z88 z89 z90 z91 z92 z93 z94 z95 z96 z97 z98 z99 z100 z101 z102 z103 z104 z105 z106 z107 z108 z109 z110 z111 z112 z113 z114 z115 z116 z117 z118 z119 z120 z121 z122 z123 z124 z125 z126 z127 z128 z129 z130 z131 z132 z133 z134 z135 z136 z137 z138 z139 z140 z141 z142 z143 z144 z145 z146 z147 z148 z149 z150 z151 z152 z153 z154 z155 z156 z157 z158 z159 z160 z161 z162 z163 z164 z165 z166 z167 z168 z169 z170 z171 z172 z173 z174 z175 z176 z177 z178 z179 z180 z181 z182 z183 z184 z185 z186 z187 : Value}
    (hQ : ∀ (y97 y98 y99 y100 y101 y102 y103 y104 y105 y106 y107 y108 y109 y110 y111 y112 y113 y114 y115 y116 : Value)  (wx : World), Hid (Below v.heap.size v wx) → Q .normal ⟨#[z0, z1, z2, z3, z4, z5, z6, z7, z8, z9, z10, .pointer (some ⟨b11, 0, none⟩), .string T, .string u, .pointer (some ⟨b14, 0, none⟩), z15, z16, z17, z18, z19, z20, z21, z22, z23, z24, z25, z26, z27, z28, z29, z30, z31, z32, z33, z34, z35, z36, z37, z38, z39, z40, z41, z42, z43, z44, z45, z46, z47, z48, z49, z50, z51, z52, z53, z54, z55, z56, z57, z58, z59, z60, z61, z62, z63, z64, z65, z66, z67, z68, z69, z70, z71, z72, z73, z74, z75, z76, z77, z78, z79, z80, z81, z82, z83, z84, z85, z86, z87, z88, z89, z90, z91, z92, z93, z94, z95, z96, y97, y98, y99, y100, y101, y102, y103, y104, y105, y106, y107, y108, y109, y110, y111, y112, y113, y114, y115, y116, .bool false, z118, z119, z120, z121, z122, z123, z124, z125, z126, z127, z128, z129, z130, z131, z132, z133, z134, z135, z136, z137, z138, z139, z140, z141, z142, z143, z144, z145, z146, z147, z148, z149, z150, z151, z152, z153, z154, z155, z156, z157, z158, z159, z160, z161, z162, z163, z164, z165, z166, z167, z168, z169, z170, z171, z172, z173, z174, z175, z176, z177, z178, z179, z180, z181, z182, z183, z184, z185, z186, z187], []⟩ wx) :
    Code.wp Tryd.prog R13 Q ⟨#[z0, z1, z2, z3, z4, z5, z6, z7, z8, z9, z10, .pointer (some ⟨b11, 0, none⟩), .string T, .string u, .pointer (some ⟨b14, 0, none⟩), z15, z16, z17, z18, z19, z20, z21, z22, z23, z24, z25, z26, z27, z28, z29, z30, z31, z32, z33, z34, z35, z36, z37, z38, z39, z40, z41, z42, z43, z44, z45, z46, z47, z48, z49, z50, z51, z52, z53, z54, z55, z56, z57, z58, z59, z60, z61, z62, z63, z64, z65, z66, z67, z68, z69, z70, z71, z72, z73, z74, z75, z76, z77, z78, z79, z80, z81, z82, z83, z84, z85, z86, z87, z88, z89, z90, z91, z92, z93, z94, z95, z96, z97, z98, z99, z100, z101, z102, z103, z104, z105, z106, z107, z108, z109, z110, z111, z112, z113, z114, z115, z116, z117, z118, z119, z120, z121, z122, z123, z124, z125, z126, z127, z128, z129, z130, z131, z132, z133, z134, z135, z136, z137, z138, z139, z140, z141, z142, z143, z144, z145, z146, z147, z148, z149, z150, z151, z152, z153, z154, z155, z156, z157, z158, z159, z160, z161, z162, z163, z164, z165, z166, z167, z168, z169, z170, z171, z172, z173, z174, z175, z176, z177, z178, z179, z180, z181, z182, z183, z184, z185, z186, z187], []⟩ v := by
  conv => arg 2; whnf
  refine wp_region_noPanic ?_
  by_cases he : T = { data := #[] }
  · subst he
    by_cases hc : c6 = 0
    · subst hc
      refine wp_region_held_drew (S := (fun V => Below (v).heap.size (v) V)) (by kernel_rfl) ((Below.refl _ _).drew) (fun hHeld => ?_)
      (refine wpAnyH_take (i := 0) (v := ?hv156) rfl (by kernel_rfl) (by kernel_rfl) (by kernel_rfl) (fun _ _ _ h => h) (Or.inl ⟨by kernel_rfl, ?hy156⟩) hHeld ?hr156; case hy156 => (intro w hSw; (try dsimp only at hSw); go_simp; try with_reducible rfl))
      simp only [Act.put, List.getElem_toArray, List.getElem_cons_succ, List.getElem_cons_zero, List.setIfInBounds_toArray, List.set_cons_zero, List.set_cons_succ]
      (refine wpAnyH_take (i := 1) (v := ?hv157) rfl (by kernel_rfl) (by kernel_rfl) (by kernel_rfl) (fun _ _ _ h => h) (Or.inl ⟨by kernel_rfl, ?hy157⟩) hHeld ?hr157; case hy157 => (intro w hSw; (try dsimp only at hSw); go_simp; try with_reducible rfl))
      simp only [Act.put, List.getElem_toArray, List.getElem_cons_succ, List.getElem_cons_zero, List.setIfInBounds_toArray, List.set_cons_zero, List.set_cons_succ]
      (refine wpAnyH_take (i := 2) (v := ?hv158) rfl (by kernel_rfl) (by kernel_rfl) (by kernel_rfl) (fun _ _ _ h => h) (Or.inl ⟨by kernel_rfl, ?hy158⟩) hHeld ?hr158; case hy158 => (intro w hSw; (try dsimp only at hSw); go_simp; try with_reducible rfl))
      simp only [Act.put, List.getElem_toArray, List.getElem_cons_succ, List.getElem_cons_zero, List.setIfInBounds_toArray, List.set_cons_zero, List.set_cons_succ]
      (refine wpAnyH_take (i := 3) (v := undef) rfl (by kernel_rfl) (by kernel_rfl) (by kernel_rfl) (fun _ _ _ h => h) (Or.inr ⟨by kernel_rfl, rfl⟩) hHeld ?_)
      simp only [Act.put, List.getElem_toArray, List.getElem_cons_succ, List.getElem_cons_zero, List.setIfInBounds_toArray, List.set_cons_zero, List.set_cons_succ]
      (refine wpAnyH_take (i := 4) (v := undef) rfl (by kernel_rfl) (by kernel_rfl) (by kernel_rfl) (fun _ _ _ h => h) (Or.inr ⟨by kernel_rfl, rfl⟩) hHeld ?_)
      simp only [Act.put, List.getElem_toArray, List.getElem_cons_succ, List.getElem_cons_zero, List.setIfInBounds_toArray, List.set_cons_zero, List.set_cons_succ]
      (refine wpAnyH_take (i := 5) (v := undef) rfl (by kernel_rfl) (by kernel_rfl) (by kernel_rfl) (fun _ _ _ h => h) (Or.inr ⟨by kernel_rfl, rfl⟩) hHeld ?_)
      simp only [Act.put, List.getElem_toArray, List.getElem_cons_succ, List.getElem_cons_zero, List.setIfInBounds_toArray, List.set_cons_zero, List.set_cons_succ]
      (refine wpAnyH_take (i := 6) (v := undef) rfl (by kernel_rfl) (by kernel_rfl) (by kernel_rfl) (fun _ _ _ h => h) (Or.inr ⟨by kernel_rfl, rfl⟩) hHeld ?_)
      simp only [Act.put, List.getElem_toArray, List.getElem_cons_succ, List.getElem_cons_zero, List.setIfInBounds_toArray, List.set_cons_zero, List.set_cons_succ]
      (refine wpAnyH_take (i := 7) (v := undef) rfl (by kernel_rfl) (by kernel_rfl) (by kernel_rfl) (fun _ _ _ h => h) (Or.inr ⟨by kernel_rfl, rfl⟩) hHeld ?_)
      simp only [Act.put, List.getElem_toArray, List.getElem_cons_succ, List.getElem_cons_zero, List.setIfInBounds_toArray, List.set_cons_zero, List.set_cons_succ]
      (refine wpAnyH_take (i := 8) (v := ?hv164) rfl (by kernel_rfl) (by kernel_rfl) (by kernel_rfl) (fun _ _ _ h => h) (Or.inl ⟨by kernel_rfl, ?hy164⟩) hHeld ?hr164; case hy164 => (intro w hSw; (try dsimp only at hSw); go_simp; try with_reducible rfl))
      simp only [Act.put, List.getElem_toArray, List.getElem_cons_succ, List.getElem_cons_zero, List.setIfInBounds_toArray, List.set_cons_zero, List.set_cons_succ]
      (refine wpAnyH_take (i := 9) (v := ?hv165) rfl (by kernel_rfl) (by kernel_rfl) (by kernel_rfl) (fun _ _ _ h => h) (Or.inl ⟨by kernel_rfl, ?hy165⟩) hHeld ?hr165; case hy165 => (intro w hSw; (try dsimp only at hSw); go_simp; try with_reducible rfl))
      simp only [Act.put, List.getElem_toArray, List.getElem_cons_succ, List.getElem_cons_zero, List.setIfInBounds_toArray, List.set_cons_zero, List.set_cons_succ]
      (refine wpAnyH_take (i := 10) (v := ?hv166) rfl (by kernel_rfl) (by kernel_rfl) (by kernel_rfl) (fun _ _ _ h => h) (Or.inl ⟨by kernel_rfl, ?hy166⟩) hHeld ?hr166; case hy166 => (intro w hSw; (try dsimp only at hSw); go_simp; try with_reducible rfl))
      simp only [Act.put, List.getElem_toArray, List.getElem_cons_succ, List.getElem_cons_zero, List.setIfInBounds_toArray, List.set_cons_zero, List.set_cons_succ]
      (refine wpAnyH_take (i := 11) (v := ?hv167) rfl (by kernel_rfl) (by kernel_rfl) (by kernel_rfl) (fun _ _ _ h => h) (Or.inl ⟨by kernel_rfl, ?hy167⟩) hHeld ?hr167; case hy167 => (intro w hSw; (try dsimp only at hSw); have k0 := (hSw.cell (p := ⟨b14, 2, none⟩) HX14.out.lt).trans (HX14.out.at_ 2 rfl); clear hSw; go_simp; try with_reducible rfl))
      simp only [Act.put, List.getElem_toArray, List.getElem_cons_succ, List.getElem_cons_zero, List.setIfInBounds_toArray, List.set_cons_zero, List.set_cons_succ]
      (refine wpAnyH_take (i := 12) (v := ?hv168) rfl (by kernel_rfl) (by kernel_rfl) (by kernel_rfl) (fun _ _ _ h => h) (Or.inl ⟨by kernel_rfl, ?hy168⟩) hHeld ?hr168; case hy168 => (intro w hSw; (try dsimp only at hSw); go_simp; try with_reducible rfl))
      simp only [Act.put, List.getElem_toArray, List.getElem_cons_succ, List.getElem_cons_zero, List.setIfInBounds_toArray, List.set_cons_zero, List.set_cons_succ]
      (refine wpAnyH_take (i := 13) (v := ?hv169) rfl (by kernel_rfl) (by kernel_rfl) (by kernel_rfl) (fun _ _ _ h => h) (Or.inl ⟨by kernel_rfl, ?hy169⟩) hHeld ?hr169; case hy169 => (intro w hSw; (try dsimp only at hSw); go_simp; try with_reducible rfl))
      simp only [Act.put, List.getElem_toArray, List.getElem_cons_succ, List.getElem_cons_zero, List.setIfInBounds_toArray, List.set_cons_zero, List.set_cons_succ]
      (refine wpAnyH_take (i := 14) (v := ?hv170) rfl (by kernel_rfl) (by kernel_rfl) (by kernel_rfl) (fun _ _ _ h => h) (Or.inl ⟨by kernel_rfl, ?hy170⟩) hHeld ?hr170; case hy170 => (intro w hSw; (try dsimp only at hSw); go_simp; try with_reducible rfl))
      simp only [Act.put, List.getElem_toArray, List.getElem_cons_succ, List.getElem_cons_zero, List.setIfInBounds_toArray, List.set_cons_zero, List.set_cons_succ]
      (refine wpAnyH_take (i := 15) (v := ?hv171) rfl (by kernel_rfl) (by kernel_rfl) (by kernel_rfl) (fun _ _ _ h => h) (Or.inl ⟨by kernel_rfl, ?hy171⟩) hHeld ?hr171; case hy171 => (intro w hSw; (try dsimp only at hSw); have k0 := (hSw.cell (p := ⟨b14, 0, none⟩) HX14.out.lt).trans (HX14.out.at_ 0 rfl); have k1 := (hSw.cell (p := ⟨b14, 1, none⟩) HX14.out.lt).trans (HX14.out.at_ 1 rfl); clear hSw; go_simp; try with_reducible rfl))
      simp only [Act.put, List.getElem_toArray, List.getElem_cons_succ, List.getElem_cons_zero, List.setIfInBounds_toArray, List.set_cons_zero, List.set_cons_succ]
      (refine wpAnyH_take (i := 17) (v := ?hv172) rfl (by kernel_rfl) (by kernel_rfl) (by kernel_rfl) (fun _ _ _ h => h) (Or.inl ⟨by kernel_rfl, ?hy172⟩) hHeld ?hr172; case hy172 => (intro w hSw; (try dsimp only at hSw); go_simp; try with_reducible rfl))
      simp only [Act.put, List.getElem_toArray, List.getElem_cons_succ, List.getElem_cons_zero, List.setIfInBounds_toArray, List.set_cons_zero, List.set_cons_succ]
      refine wpAnyH_ready (rs := [16]) (by kernel_rfl) (by simp) ?_
      refine AllReadyH.cons rfl (fun K hK => ?_) AllReadyH.nil
      go_simp
      go_at_call 28
      refine (ti_w l6 s6 _ (HD.out.below hHeld h0W)).mono ?_
      rintro e v ⟨rfl, hb⟩
      rw [read_back HP.out rfl]
      refine hK.out _ _ (hHeld.trans (hb.mono hHeld.size)) (fun hHeld => ?_)
      clear hK K hb
      try simp only [Act.put, List.getElem_toArray, List.getElem_cons_succ, List.getElem_cons_zero, List.setIfInBounds_toArray, List.set_cons_zero, List.set_cons_succ]
      (refine wpAnyH_take (i := 18) (v := ?hv173) rfl (by kernel_rfl) (by kernel_rfl) (by kernel_rfl) (fun _ _ _ h => h) (Or.inl ⟨by kernel_rfl, ?hy173⟩) hHeld ?hr173; case hy173 => (intro w hSw; (try dsimp only at hSw); go_simp; try with_reducible rfl))
      simp only [Act.put, List.getElem_toArray, List.getElem_cons_succ, List.getElem_cons_zero, List.setIfInBounds_toArray, List.set_cons_zero, List.set_cons_succ]
      (refine wpAnyH_take (i := 19) (v := ?hv174) rfl (by kernel_rfl) (by kernel_rfl) (by kernel_rfl) (fun _ _ _ h => h) (Or.inl ⟨by kernel_rfl, ?hy174⟩) hHeld ?hr174; case hy174 => (intro w hSw; (try dsimp only at hSw); go_simp; try with_reducible rfl))
      simp only [Act.put, List.getElem_toArray, List.getElem_cons_succ, List.getElem_cons_zero, List.setIfInBounds_toArray, List.set_cons_zero, List.set_cons_succ]
      (refine wpAnyH_take (i := 20) (v := ?hv175) rfl (by kernel_rfl) (by kernel_rfl) (by kernel_rfl) (fun _ _ _ h => h) (Or.inl ⟨by kernel_rfl, ?hy175⟩) hHeld ?hr175; case hy175 => (intro w hSw; (try dsimp only at hSw); go_simp; try with_reducible rfl))
      simp only [Act.put, List.getElem_toArray, List.getElem_cons_succ, List.getElem_cons_zero, List.setIfInBounds_toArray, List.set_cons_zero, List.set_cons_succ]
      refine wpAnyH_done (by kernel_rfl) ?_ _
      have HF := Lib.hid hHeld
      clear hHeld
      exact NoPanic.normal (hQ _ _ _ _ _ _ _ _ _ _ _ _ _ _ _ _ _ _ _ _ _ HF)
    · have hq2 : (c6 == 0) = false := beq_eq_false_iff_ne.2 hc
      refine wp_region_held_drew (S := (fun V => Below (v).heap.size (v) V)) (by kernel_rfl) ((Below.refl _ _).drew) (fun hHeld => ?_)
      (refine wpAnyH_take (i := 0) (v := ?hv176) rfl (by kernel_rfl) (by kernel_rfl) (by kernel_rfl) (fun _ _ _ h => h) (Or.inl ⟨by kernel_rfl, ?hy176⟩) hHeld ?hr176; case hy176 => (intro w hSw; (try dsimp only at hSw); go_simp; try with_reducible rfl))
      simp only [Act.put, List.getElem_toArray, List.getElem_cons_succ, List.getElem_cons_zero, List.setIfInBounds_toArray, List.set_cons_zero, List.set_cons_succ]
      (refine wpAnyH_take (i := 1) (v := ?hv177) rfl (by kernel_rfl) (by kernel_rfl) (by kernel_rfl) (fun _ _ _ h => h) (Or.inl ⟨by kernel_rfl, ?hy177⟩) hHeld ?hr177; case hy177 => (intro w hSw; (try dsimp only at hSw); go_simp; try with_reducible rfl))
      simp only [Act.put, List.getElem_toArray, List.getElem_cons_succ, List.getElem_cons_zero, List.setIfInBounds_toArray, List.set_cons_zero, List.set_cons_succ]
      (refine wpAnyH_take (i := 2) (v := ?hv178) rfl (by kernel_rfl) (by kernel_rfl) (by kernel_rfl) (fun _ _ _ h => h) (Or.inl ⟨by kernel_rfl, ?hy178⟩) hHeld ?hr178; case hy178 => (intro w hSw; (try dsimp only at hSw); go_simp; try with_reducible rfl))
      simp only [Act.put, List.getElem_toArray, List.getElem_cons_succ, List.getElem_cons_zero, List.setIfInBounds_toArray, List.set_cons_zero, List.set_cons_succ]
      (refine wpAnyH_take (i := 3) (v := undef) rfl (by kernel_rfl) (by kernel_rfl) (by kernel_rfl) (fun _ _ _ h => h) (Or.inr ⟨by kernel_rfl, rfl⟩) hHeld ?_)
      simp only [Act.put, List.getElem_toArray, List.getElem_cons_succ, List.getElem_cons_zero, List.setIfInBounds_toArray, List.set_cons_zero, List.set_cons_succ]
      (refine wpAnyH_take (i := 4) (v := undef) rfl (by kernel_rfl) (by kernel_rfl) (by kernel_rfl) (fun _ _ _ h => h) (Or.inr ⟨by kernel_rfl, rfl⟩) hHeld ?_)
      simp only [Act.put, List.getElem_toArray, List.getElem_cons_succ, List.getElem_cons_zero, List.setIfInBounds_toArray, List.set_cons_zero, List.set_cons_succ]
      (refine wpAnyH_take (i := 5) (v := undef) rfl (by kernel_rfl) (by kernel_rfl) (by kernel_rfl) (fun _ _ _ h => h) (Or.inr ⟨by kernel_rfl, rfl⟩) hHeld ?_)
      simp only [Act.put, List.getElem_toArray, List.getElem_cons_succ, List.getElem_cons_zero, List.setIfInBounds_toArray, List.set_cons_zero, List.set_cons_succ]
      (refine wpAnyH_take (i := 6) (v := undef) rfl (by kernel_rfl) (by kernel_rfl) (by kernel_rfl) (fun _ _ _ h => h) (Or.inr ⟨by kernel_rfl, rfl⟩) hHeld ?_)
      simp only [Act.put, List.getElem_toArray, List.getElem_cons_succ, List.getElem_cons_zero, List.setIfInBounds_toArray, List.set_cons_zero, List.set_cons_succ]
      (refine wpAnyH_take (i := 7) (v := undef) rfl (by kernel_rfl) (by kernel_rfl) (by kernel_rfl) (fun _ _ _ h => h) (Or.inr ⟨by kernel_rfl, rfl⟩) hHeld ?_)
      simp only [Act.put, List.getElem_toArray, List.getElem_cons_succ, List.getElem_cons_zero, List.setIfInBounds_toArray, List.set_cons_zero, List.set_cons_succ]
      (refine wpAnyH_take (i := 8) (v := ?hv184) rfl (by kernel_rfl) (by kernel_rfl) (by kernel_rfl) (fun _ _ _ h => h) (Or.inl ⟨by kernel_rfl, ?hy184⟩) hHeld ?hr184; case hy184 => (intro w hSw; (try dsimp only at hSw); go_simp; try with_reducible rfl))
      simp only [Act.put, List.getElem_toArray, List.getElem_cons_succ, List.getElem_cons_zero, List.setIfInBounds_toArray, List.set_cons_zero, List.set_cons_succ]
      (refine wpAnyH_take (i := 9) (v := ?hv185) rfl (by kernel_rfl) (by kernel_rfl) (by kernel_rfl) (fun _ _ _ h => h) (Or.inl ⟨by kernel_rfl, ?hy185⟩) hHeld ?hr185; case hy185 => (intro w hSw; (try dsimp only at hSw); go_simp; try with_reducible rfl))
      simp only [Act.put, List.getElem_toArray, List.getElem_cons_succ, List.getElem_cons_zero, List.setIfInBounds_toArray, List.set_cons_zero, List.set_cons_succ]
      (refine wpAnyH_take (i := 10) (v := ?hv186) rfl (by kernel_rfl) (by kernel_rfl) (by kernel_rfl) (fun _ _ _ h => h) (Or.inl ⟨by kernel_rfl, ?hy186⟩) hHeld ?hr186; case hy186 => (intro w hSw; (try dsimp only at hSw); go_simp; try with_reducible rfl))
      simp only [Act.put, List.getElem_toArray, List.getElem_cons_succ, List.getElem_cons_zero, List.setIfInBounds_toArray, List.set_cons_zero, List.set_cons_succ]
      (refine wpAnyH_take (i := 11) (v := ?hv187) rfl (by kernel_rfl) (by kernel_rfl) (by kernel_rfl) (fun _ _ _ h => h) (Or.inl ⟨by kernel_rfl, ?hy187⟩) hHeld ?hr187; case hy187 => (intro w hSw; (try dsimp only at hSw); have k0 := (hSw.cell (p := ⟨b14, 2, none⟩) HX14.out.lt).trans (HX14.out.at_ 2 rfl); clear hSw; go_simp; try with_reducible rfl))
      simp only [Act.put, List.getElem_toArray, List.getElem_cons_succ, List.getElem_cons_zero, List.setIfInBounds_toArray, List.set_cons_zero, List.set_cons_succ]
      (refine wpAnyH_take (i := 12) (v := ?hv188) rfl (by kernel_rfl) (by kernel_rfl) (by kernel_rfl) (fun _ _ _ h => h) (Or.inl ⟨by kernel_rfl, ?hy188⟩) hHeld ?hr188; case hy188 => (intro w hSw; (try dsimp only at hSw); go_simp; try with_reducible rfl))
      simp only [Act.put, List.getElem_toArray, List.getElem_cons_succ, List.getElem_cons_zero, List.setIfInBounds_toArray, List.set_cons_zero, List.set_cons_succ]
      (refine wpAnyH_take (i := 13) (v := ?hv189) rfl (by kernel_rfl) (by kernel_rfl) (by kernel_rfl) (fun _ _ _ h => h) (Or.inl ⟨by kernel_rfl, ?hy189⟩) hHeld ?hr189; case hy189 => (intro w hSw; (try dsimp only at hSw); go_simp; try with_reducible rfl))
      simp only [Act.put, List.getElem_toArray, List.getElem_cons_succ, List.getElem_cons_zero, List.setIfInBounds_toArray, List.set_cons_zero, List.set_cons_succ]
      (refine wpAnyH_take (i := 14) (v := undef) rfl (by kernel_rfl) (by kernel_rfl) (by kernel_rfl) (fun _ _ _ h => h) (Or.inr ⟨by kernel_rfl, rfl⟩) hHeld ?_)
      simp only [Act.put, List.getElem_toArray, List.getElem_cons_succ, List.getElem_cons_zero, List.setIfInBounds_toArray, List.set_cons_zero, List.set_cons_succ]
      (refine wpAnyH_take (i := 15) (v := undef) rfl (by kernel_rfl) (by kernel_rfl) (by kernel_rfl) (fun _ _ _ h => h) (Or.inr ⟨by kernel_rfl, rfl⟩) hHeld ?_)
      simp only [Act.put, List.getElem_toArray, List.getElem_cons_succ, List.getElem_cons_zero, List.setIfInBounds_toArray, List.set_cons_zero, List.set_cons_succ]
      (refine wpAnyH_take (i := 16) (v := undef) rfl (by kernel_rfl) (by kernel_rfl) (by kernel_rfl) (fun _ _ _ h => h) (Or.inr ⟨by kernel_rfl, rfl⟩) hHeld ?_)
      simp only [Act.put, List.getElem_toArray, List.getElem_cons_succ, List.getElem_cons_zero, List.setIfInBounds_toArray, List.set_cons_zero, List.set_cons_succ]
      (refine wpAnyH_take (i := 17) (v := undef) rfl (by kernel_rfl) (by kernel_rfl) (by kernel_rfl) (fun _ _ _ h => h) (Or.inr ⟨by kernel_rfl, rfl⟩) hHeld ?_)
      simp only [Act.put, List.getElem_toArray, List.getElem_cons_succ, List.getElem_cons_zero, List.setIfInBounds_toArray, List.set_cons_zero, List.set_cons_succ]
      (refine wpAnyH_take (i := 18) (v := undef) rfl (by kernel_rfl) (by kernel_rfl) (by kernel_rfl) (fun _ _ _ h => h) (Or.inr ⟨by kernel_rfl, rfl⟩) hHeld ?_)
      simp only [Act.put, List.getElem_toArray, List.getElem_cons_succ, List.getElem_cons_zero, List.setIfInBounds_toArray, List.set_cons_zero, List.set_cons_succ]
      (refine wpAnyH_take (i := 19) (v := ?hv195) rfl (by kernel_rfl) (by kernel_rfl) (by kernel_rfl) (fun _ _ _ h => h) (Or.inl ⟨by kernel_rfl, ?hy195⟩) hHeld ?hr195; case hy195 => (intro w hSw; (try dsimp only at hSw); go_simp; try with_reducible rfl))
      simp only [Act.put, List.getElem_toArray, List.getElem_cons_succ, List.getElem_cons_zero, List.setIfInBounds_toArray, List.set_cons_zero, List.set_cons_succ]
      (refine wpAnyH_take (i := 20) (v := ?hv196) rfl (by kernel_rfl) (by kernel_rfl) (by kernel_rfl) (fun _ _ _ h => h) (Or.inl ⟨by kernel_rfl, ?hy196⟩) hHeld ?hr196; case hy196 => (intro w hSw; (try dsimp only at hSw); go_simp; try with_reducible rfl))
      simp only [Act.put, List.getElem_toArray, List.getElem_cons_succ, List.getElem_cons_zero, List.setIfInBounds_toArray, List.set_cons_zero, List.set_cons_succ]
      refine wpAnyH_done (by kernel_rfl) ?_ _
      have HF := Lib.hid hHeld
      clear hHeld
      exact NoPanic.normal (hQ _ _ _ _ _ _ _ _ _ _ _ _ _ _ _ _ _ _ _ _ _ HF)
  · have HTN := Lib.hid (show textV x5 y5 ≠ { data := #[] } from fun h9 => he (HT.out.trans h9))
    have hq1 : T.toList.isEmpty = false := str_t he
    by_cases hc : c6 = 0
    · subst hc
      refine wp_region_held_drew (S := (fun V => Below (v).heap.size (v) V)) (by kernel_rfl) ((Below.refl _ _).drew) (fun hHeld => ?_)
      (refine wpAnyH_take (i := 0) (v := ?hv197) rfl (by kernel_rfl) (by kernel_rfl) (by kernel_rfl) (fun _ _ _ h => h) (Or.inl ⟨by kernel_rfl, ?hy197⟩) hHeld ?hr197; case hy197 => (intro w hSw; (try dsimp only at hSw); go_simp; try with_reducible rfl))
      simp only [Act.put, List.getElem_toArray, List.getElem_cons_succ, List.getElem_cons_zero, List.setIfInBounds_toArray, List.set_cons_zero, List.set_cons_succ]
      (refine wpAnyH_take (i := 1) (v := ?hv198) rfl (by kernel_rfl) (by kernel_rfl) (by kernel_rfl) (fun _ _ _ h => h) (Or.inl ⟨by kernel_rfl, ?hy198⟩) hHeld ?hr198; case hy198 => (intro w hSw; (try dsimp only at hSw); go_simp; try with_reducible rfl))
      simp only [Act.put, List.getElem_toArray, List.getElem_cons_succ, List.getElem_cons_zero, List.setIfInBounds_toArray, List.set_cons_zero, List.set_cons_succ]
      (refine wpAnyH_take (i := 2) (v := ?hv199) rfl (by kernel_rfl) (by kernel_rfl) (by kernel_rfl) (fun _ _ _ h => h) (Or.inl ⟨by kernel_rfl, ?hy199⟩) hHeld ?hr199; case hy199 => (intro w hSw; (try dsimp only at hSw); go_simp; try with_reducible rfl))
      simp only [Act.put, List.getElem_toArray, List.getElem_cons_succ, List.getElem_cons_zero, List.setIfInBounds_toArray, List.set_cons_zero, List.set_cons_succ]
      (refine wpAnyH_take (i := 3) (v := ?hv200) rfl (by kernel_rfl) (by kernel_rfl) (by kernel_rfl) (fun _ _ _ h => h) (Or.inl ⟨by kernel_rfl, ?hy200⟩) hHeld ?hr200; case hy200 => (intro w hSw; (try dsimp only at hSw); go_simp; try with_reducible rfl))
      simp only [Act.put, List.getElem_toArray, List.getElem_cons_succ, List.getElem_cons_zero, List.setIfInBounds_toArray, List.set_cons_zero, List.set_cons_succ]
      (refine wpAnyH_take (i := 5) (v := ?hv201) rfl (by kernel_rfl) (by kernel_rfl) (by kernel_rfl) (fun _ _ _ h => h) (Or.inl ⟨by kernel_rfl, ?hy201⟩) hHeld ?hr201; case hy201 => (intro w hSw; (try dsimp only at hSw); have k0 := (hSw.cell (p := ⟨b11, 0, none⟩) HX11.out.lt).trans (HX11.out.at_ 0 rfl); have k1 := (hSw.cell (p := ⟨b11, 1, none⟩) HX11.out.lt).trans (HX11.out.at_ 1 rfl); clear hSw; go_simp; try with_reducible rfl))
      simp only [Act.put, List.getElem_toArray, List.getElem_cons_succ, List.getElem_cons_zero, List.setIfInBounds_toArray, List.set_cons_zero, List.set_cons_succ]
      (refine wpAnyH_take (i := 6) (v := ?hv202) rfl (by kernel_rfl) (by kernel_rfl) (by kernel_rfl) (fun _ _ _ h => h) (Or.inl ⟨by kernel_rfl, ?hy202⟩) hHeld ?hr202; case hy202 => (intro w hSw; (try dsimp only at hSw); go_simp; try with_reducible rfl))
      simp only [Act.put, List.getElem_toArray, List.getElem_cons_succ, List.getElem_cons_zero, List.setIfInBounds_toArray, List.set_cons_zero, List.set_cons_succ]
      refine wpAnyH_ready (rs := [4]) (by kernel_rfl) (by simp) ?_
      refine AllReadyH.cons rfl (fun K hK => ?_) AllReadyH.nil
      go_simp
      go_at_call 30
      refine (read_impl T _ HTS.out (HD.out.below hHeld h0W)).mono ?_
      intro e v h
      obtain ⟨l8, s8, c8, rfl, hP8, hb⟩ := readR_elim h
      rw [HT.out] at hP8
      obtain ⟨e1, e2, e3⟩ := text_back hP8 HTN.out
      rw [e1, e2, e3]
      clear h hP8 e1 e2 e3
      refine hK.out _ _ (hHeld.trans (hb.mono hHeld.size)) (fun hHeld => ?_)
      clear hK K hb
      try simp only [Act.put, List.getElem_toArray, List.getElem_cons_succ, List.getElem_cons_zero, List.setIfInBounds_toArray, List.set_cons_zero, List.set_cons_succ]
      (refine wpAnyH_take (i := 7) (v := ?hv203) rfl (by kernel_rfl) (by kernel_rfl) (by kernel_rfl) (fun _ _ _ h => h) (Or.inl ⟨by kernel_rfl, ?hy203⟩) hHeld ?hr203; case hy203 => (intro w hSw; (try dsimp only at hSw); go_simp; try with_reducible rfl))
      simp only [Act.put, List.getElem_toArray, List.getElem_cons_succ, List.getElem_cons_zero, List.setIfInBounds_toArray, List.set_cons_zero, List.set_cons_succ]
      (refine wpAnyH_take (i := 8) (v := ?hv204) rfl (by kernel_rfl) (by kernel_rfl) (by kernel_rfl) (fun _ _ _ h => h) (Or.inl ⟨by kernel_rfl, ?hy204⟩) hHeld ?hr204; case hy204 => (intro w hSw; (try dsimp only at hSw); go_simp; try with_reducible rfl))
      simp only [Act.put, List.getElem_toArray, List.getElem_cons_succ, List.getElem_cons_zero, List.setIfInBounds_toArray, List.set_cons_zero, List.set_cons_succ]
      (refine wpAnyH_take (i := 9) (v := ?hv205) rfl (by kernel_rfl) (by kernel_rfl) (by kernel_rfl) (fun _ _ _ h => h) (Or.inl ⟨by kernel_rfl, ?hy205⟩) hHeld ?hr205; case hy205 => (intro w hSw; (try dsimp only at hSw); go_simp; try with_reducible rfl))
      simp only [Act.put, List.getElem_toArray, List.getElem_cons_succ, List.getElem_cons_zero, List.setIfInBounds_toArray, List.set_cons_zero, List.set_cons_succ]
      (refine wpAnyH_take (i := 10) (v := ?hv206) rfl (by kernel_rfl) (by kernel_rfl) (by kernel_rfl) (fun _ _ _ h => h) (Or.inl ⟨by kernel_rfl, ?hy206⟩) hHeld ?hr206; case hy206 => (intro w hSw; (try dsimp only at hSw); go_simp; try with_reducible rfl))
      simp only [Act.put, List.getElem_toArray, List.getElem_cons_succ, List.getElem_cons_zero, List.setIfInBounds_toArray, List.set_cons_zero, List.set_cons_succ]
      (refine wpAnyH_take (i := 11) (v := ?hv207) rfl (by kernel_rfl) (by kernel_rfl) (by kernel_rfl) (fun _ _ _ h => h) (Or.inl ⟨by kernel_rfl, ?hy207⟩) hHeld ?hr207; case hy207 => (intro w hSw; (try dsimp only at hSw); have k0 := (hSw.cell (p := ⟨b14, 2, none⟩) HX14.out.lt).trans (HX14.out.at_ 2 rfl); clear hSw; go_simp; try with_reducible rfl))
      simp only [Act.put, List.getElem_toArray, List.getElem_cons_succ, List.getElem_cons_zero, List.setIfInBounds_toArray, List.set_cons_zero, List.set_cons_succ]
      (refine wpAnyH_take (i := 12) (v := ?hv208) rfl (by kernel_rfl) (by kernel_rfl) (by kernel_rfl) (fun _ _ _ h => h) (Or.inl ⟨by kernel_rfl, ?hy208⟩) hHeld ?hr208; case hy208 => (intro w hSw; (try dsimp only at hSw); go_simp; try with_reducible rfl))
      simp only [Act.put, List.getElem_toArray, List.getElem_cons_succ, List.getElem_cons_zero, List.setIfInBounds_toArray, List.set_cons_zero, List.set_cons_succ]
      (refine wpAnyH_take (i := 13) (v := ?hv209) rfl (by kernel_rfl) (by kernel_rfl) (by kernel_rfl) (fun _ _ _ h => h) (Or.inl ⟨by kernel_rfl, ?hy209⟩) hHeld ?hr209; case hy209 => (intro w hSw; (try dsimp only at hSw); go_simp; try with_reducible rfl))
      simp only [Act.put, List.getElem_toArray, List.getElem_cons_succ, List.getElem_cons_zero, List.setIfInBounds_toArray, List.set_cons_zero, List.set_cons_succ]
      (refine wpAnyH_take (i := 14) (v := ?hv210) rfl (by kernel_rfl) (by kernel_rfl) (by kernel_rfl) (fun _ _ _ h => h) (Or.inl ⟨by kernel_rfl, ?hy210⟩) hHeld ?hr210; case hy210 => (intro w hSw; (try dsimp only at hSw); go_simp; try with_reducible rfl))
      simp only [Act.put, List.getElem_toArray, List.getElem_cons_succ, List.getElem_cons_zero, List.setIfInBounds_toArray, List.set_cons_zero, List.set_cons_succ]
      (refine wpAnyH_take (i := 15) (v := ?hv211) rfl (by kernel_rfl) (by kernel_rfl) (by kernel_rfl) (fun _ _ _ h => h) (Or.inl ⟨by kernel_rfl, ?hy211⟩) hHeld ?hr211; case hy211 => (intro w hSw; (try dsimp only at hSw); have k0 := (hSw.cell (p := ⟨b14, 0, none⟩) HX14.out.lt).trans (HX14.out.at_ 0 rfl); have k1 := (hSw.cell (p := ⟨b14, 1, none⟩) HX14.out.lt).trans (HX14.out.at_ 1 rfl); clear hSw; go_simp; try with_reducible rfl))
      simp only [Act.put, List.getElem_toArray, List.getElem_cons_succ, List.getElem_cons_zero, List.setIfInBounds_toArray, List.set_cons_zero, List.set_cons_succ]
      (refine wpAnyH_take (i := 17) (v := ?hv212) rfl (by kernel_rfl) (by kernel_rfl) (by kernel_rfl) (fun _ _ _ h => h) (Or.inl ⟨by kernel_rfl, ?hy212⟩) hHeld ?hr212; case hy212 => (intro w hSw; (try dsimp only at hSw); go_simp; try with_reducible rfl))
      simp only [Act.put, List.getElem_toArray, List.getElem_cons_succ, List.getElem_cons_zero, List.setIfInBounds_toArray, List.set_cons_zero, List.set_cons_succ]
      refine wpAnyH_ready (rs := [16]) (by kernel_rfl) (by simp) ?_
      refine AllReadyH.cons rfl (fun K hK => ?_) AllReadyH.nil
      go_simp
      go_at_call 28
      refine (ti_w l6 s6 _ (HD.out.below hHeld h0W)).mono ?_
      rintro e v ⟨rfl, hb⟩
      rw [read_back HP.out rfl]
      refine hK.out _ _ (hHeld.trans (hb.mono hHeld.size)) (fun hHeld => ?_)
      clear hK K hb
      try simp only [Act.put, List.getElem_toArray, List.getElem_cons_succ, List.getElem_cons_zero, List.setIfInBounds_toArray, List.set_cons_zero, List.set_cons_succ]
      (refine wpAnyH_take (i := 18) (v := ?hv213) rfl (by kernel_rfl) (by kernel_rfl) (by kernel_rfl) (fun _ _ _ h => h) (Or.inl ⟨by kernel_rfl, ?hy213⟩) hHeld ?hr213; case hy213 => (intro w hSw; (try dsimp only at hSw); go_simp; try with_reducible rfl))
      simp only [Act.put, List.getElem_toArray, List.getElem_cons_succ, List.getElem_cons_zero, List.setIfInBounds_toArray, List.set_cons_zero, List.set_cons_succ]
      (refine wpAnyH_take (i := 19) (v := ?hv214) rfl (by kernel_rfl) (by kernel_rfl) (by kernel_rfl) (fun _ _ _ h => h) (Or.inl ⟨by kernel_rfl, ?hy214⟩) hHeld ?hr214; case hy214 => (intro w hSw; (try dsimp only at hSw); go_simp; try with_reducible rfl))
      simp only [Act.put, List.getElem_toArray, List.getElem_cons_succ, List.getElem_cons_zero, List.setIfInBounds_toArray, List.set_cons_zero, List.set_cons_succ]
      (refine wpAnyH_take (i := 20) (v := ?hv215) rfl (by kernel_rfl) (by kernel_rfl) (by kernel_rfl) (fun _ _ _ h => h) (Or.inl ⟨by kernel_rfl, ?hy215⟩) hHeld ?hr215; case hy215 => (intro w hSw; (try dsimp only at hSw); go_simp; try with_reducible rfl))
      simp only [Act.put, List.getElem_toArray, List.getElem_cons_succ, List.getElem_cons_zero, List.setIfInBounds_toArray, List.set_cons_zero, List.set_cons_succ]
      refine wpAnyH_done (by kernel_rfl) ?_ _
      have HF := Lib.hid hHeld
      clear hHeld
      exact NoPanic.normal (hQ _ _ _ _ _ _ _ _ _ _ _ _ _ _ _ _ _ _ _ _ _ HF)
    · have hq2 : (c6 == 0) = false := beq_eq_false_iff_ne.2 hc
      refine wp_region_held_drew (S := (fun V => Below (v).heap.size (v) V)) (by kernel_rfl) ((Below.refl _ _).drew) (fun hHeld => ?_)
      (refine wpAnyH_take (i := 0) (v := ?hv216) rfl (by kernel_rfl) (by kernel_rfl) (by kernel_rfl) (fun _ _ _ h => h) (Or.inl ⟨by kernel_rfl, ?hy216⟩) hHeld ?hr216; case hy216 => (intro w hSw; (try dsimp only at hSw); go_simp; try with_reducible rfl))
      simp only [Act.put, List.getElem_toArray, List.getElem_cons_succ, List.getElem_cons_zero, List.setIfInBounds_toArray, List.set_cons_zero, List.set_cons_succ]
      (refine wpAnyH_take (i := 1) (v := ?hv217) rfl (by kernel_rfl) (by kernel_rfl) (by kernel_rfl) (fun _ _ _ h => h) (Or.inl ⟨by kernel_rfl, ?hy217⟩) hHeld ?hr217; case hy217 => (intro w hSw; (try dsimp only at hSw); go_simp; try with_reducible rfl))
      simp only [Act.put, List.getElem_toArray, List.getElem_cons_succ, List.getElem_cons_zero, List.setIfInBounds_toArray, List.set_cons_zero, List.set_cons_succ]
      (refine wpAnyH_take (i := 2) (v := ?hv218) rfl (by kernel_rfl) (by kernel_rfl) (by kernel_rfl) (fun _ _ _ h => h) (Or.inl ⟨by kernel_rfl, ?hy218⟩) hHeld ?hr218; case hy218 => (intro w hSw; (try dsimp only at hSw); go_simp; try with_reducible rfl))
      simp only [Act.put, List.getElem_toArray, List.getElem_cons_succ, List.getElem_cons_zero, List.setIfInBounds_toArray, List.set_cons_zero, List.set_cons_succ]
      (refine wpAnyH_take (i := 3) (v := ?hv219) rfl (by kernel_rfl) (by kernel_rfl) (by kernel_rfl) (fun _ _ _ h => h) (Or.inl ⟨by kernel_rfl, ?hy219⟩) hHeld ?hr219; case hy219 => (intro w hSw; (try dsimp only at hSw); go_simp; try with_reducible rfl))
      simp only [Act.put, List.getElem_toArray, List.getElem_cons_succ, List.getElem_cons_zero, List.setIfInBounds_toArray, List.set_cons_zero, List.set_cons_succ]
      (refine wpAnyH_take (i := 5) (v := ?hv220) rfl (by kernel_rfl) (by kernel_rfl) (by kernel_rfl) (fun _ _ _ h => h) (Or.inl ⟨by kernel_rfl, ?hy220⟩) hHeld ?hr220; case hy220 => (intro w hSw; (try dsimp only at hSw); have k0 := (hSw.cell (p := ⟨b11, 0, none⟩) HX11.out.lt).trans (HX11.out.at_ 0 rfl); have k1 := (hSw.cell (p := ⟨b11, 1, none⟩) HX11.out.lt).trans (HX11.out.at_ 1 rfl); clear hSw; go_simp; try with_reducible rfl))
      simp only [Act.put, List.getElem_toArray, List.getElem_cons_succ, List.getElem_cons_zero, List.setIfInBounds_toArray, List.set_cons_zero, List.set_cons_succ]
      (refine wpAnyH_take (i := 6) (v := ?hv221) rfl (by kernel_rfl) (by kernel_rfl) (by kernel_rfl) (fun _ _ _ h => h) (Or.inl ⟨by kernel_rfl, ?hy221⟩) hHeld ?hr221; case hy221 => (intro w hSw; (try dsimp only at hSw); go_simp; try with_reducible rfl))
      simp only [Act.put, List.getElem_toArray, List.getElem_cons_succ, List.getElem_cons_zero, List.setIfInBounds_toArray, List.set_cons_zero, List.set_cons_succ]
      refine wpAnyH_ready (rs := [4]) (by kernel_rfl) (by simp) ?_
      refine AllReadyH.cons rfl (fun K hK => ?_) AllReadyH.nil
      go_simp
      go_at_call 30
      refine (read_impl T _ HTS.out (HD.out.below hHeld h0W)).mono ?_
      intro e v h
      obtain ⟨l8, s8, c8, rfl, hP8, hb⟩ := readR_elim h
      rw [HT.out] at hP8
      obtain ⟨e1, e2, e3⟩ := text_back hP8 HTN.out
      rw [e1, e2, e3]
      clear h hP8 e1 e2 e3
      refine hK.out _ _ (hHeld.trans (hb.mono hHeld.size)) (fun hHeld => ?_)
      clear hK K hb
      try simp only [Act.put, List.getElem_toArray, List.getElem_cons_succ, List.getElem_cons_zero, List.setIfInBounds_toArray, List.set_cons_zero, List.set_cons_succ]
      (refine wpAnyH_take (i := 7) (v := ?hv222) rfl (by kernel_rfl) (by kernel_rfl) (by kernel_rfl) (fun _ _ _ h => h) (Or.inl ⟨by kernel_rfl, ?hy222⟩) hHeld ?hr222; case hy222 => (intro w hSw; (try dsimp only at hSw); go_simp; try with_reducible rfl))
      simp only [Act.put, List.getElem_toArray, List.getElem_cons_succ, List.getElem_cons_zero, List.setIfInBounds_toArray, List.set_cons_zero, List.set_cons_succ]
      (refine wpAnyH_take (i := 8) (v := ?hv223) rfl (by kernel_rfl) (by kernel_rfl) (by kernel_rfl) (fun _ _ _ h => h) (Or.inl ⟨by kernel_rfl, ?hy223⟩) hHeld ?hr223; case hy223 => (intro w hSw; (try dsimp only at hSw); go_simp; try with_reducible rfl))
      simp only [Act.put, List.getElem_toArray, List.getElem_cons_succ, List.getElem_cons_zero, List.setIfInBounds_toArray, List.set_cons_zero, List.set_cons_succ]
      (refine wpAnyH_take (i := 9) (v := ?hv224) rfl (by kernel_rfl) (by kernel_rfl) (by kernel_rfl) (fun _ _ _ h => h) (Or.inl ⟨by kernel_rfl, ?hy224⟩) hHeld ?hr224; case hy224 => (intro w hSw; (try dsimp only at hSw); go_simp; try with_reducible rfl))
      simp only [Act.put, List.getElem_toArray, List.getElem_cons_succ, List.getElem_cons_zero, List.setIfInBounds_toArray, List.set_cons_zero, List.set_cons_succ]
      (refine wpAnyH_take (i := 10) (v := ?hv225) rfl (by kernel_rfl) (by kernel_rfl) (by kernel_rfl) (fun _ _ _ h => h) (Or.inl ⟨by kernel_rfl, ?hy225⟩) hHeld ?hr225; case hy225 => (intro w hSw; (try dsimp only at hSw); go_simp; try with_reducible rfl))
      simp only [Act.put, List.getElem_toArray, List.getElem_cons_succ, List.getElem_cons_zero, List.setIfInBounds_toArray, List.set_cons_zero, List.set_cons_succ]
      (refine wpAnyH_take (i := 11) (v := ?hv226) rfl (by kernel_rfl) (by kernel_rfl) (by kernel_rfl) (fun _ _ _ h => h) (Or.inl ⟨by kernel_rfl, ?hy226⟩) hHeld ?hr226; case hy226 => (intro w hSw; (try dsimp only at hSw); have k0 := (hSw.cell (p := ⟨b14, 2, none⟩) HX14.out.lt).trans (HX14.out.at_ 2 rfl); clear hSw; go_simp; try with_reducible rfl))
      simp only [Act.put, List.getElem_toArray, List.getElem_cons_succ, List.getElem_cons_zero, List.setIfInBounds_toArray, List.set_cons_zero, List.set_cons_succ]
      (refine wpAnyH_take (i := 12) (v := ?hv227) rfl (by kernel_rfl) (by kernel_rfl) (by kernel_rfl) (fun _ _ _ h => h) (Or.inl ⟨by kernel_rfl, ?hy227⟩) hHeld ?hr227; case hy227 => (intro w hSw; (try dsimp only at hSw); go_simp; try with_reducible rfl))
      simp only [Act.put, List.getElem_toArray, List.getElem_cons_succ, List.getElem_cons_zero, List.setIfInBounds_toArray, List.set_cons_zero, List.set_cons_succ]
      (refine wpAnyH_take (i := 13) (v := ?hv228) rfl (by kernel_rfl) (by kernel_rfl) (by kernel_rfl) (fun _ _ _ h => h) (Or.inl ⟨by kernel_rfl, ?hy228⟩) hHeld ?hr228; case hy228 => (intro w hSw; (try dsimp only at hSw); go_simp; try with_reducible rfl))
      simp only [Act.put, List.getElem_toArray, List.getElem_cons_succ, List.getElem_cons_zero, List.setIfInBounds_toArray, List.set_cons_zero, List.set_cons_succ]
      (refine wpAnyH_take (i := 14) (v := undef) rfl (by kernel_rfl) (by kernel_rfl) (by kernel_rfl) (fun _ _ _ h => h) (Or.inr ⟨by kernel_rfl, rfl⟩) hHeld ?_)
      simp only [Act.put, List.getElem_toArray, List.getElem_cons_succ, List.getElem_cons_zero, List.setIfInBounds_toArray, List.set_cons_zero, List.set_cons_succ]
      (refine wpAnyH_take (i := 15) (v := undef) rfl (by kernel_rfl) (by kernel_rfl) (by kernel_rfl) (fun _ _ _ h => h) (Or.inr ⟨by kernel_rfl, rfl⟩) hHeld ?_)
      simp only [Act.put, List.getElem_toArray, List.getElem_cons_succ, List.getElem_cons_zero, List.setIfInBounds_toArray, List.set_cons_zero, List.set_cons_succ]
      (refine wpAnyH_take (i := 16) (v := undef) rfl (by kernel_rfl) (by kernel_rfl) (by kernel_rfl) (fun _ _ _ h => h) (Or.inr ⟨by kernel_rfl, rfl⟩) hHeld ?_)
      simp only [Act.put, List.getElem_toArray, List.getElem_cons_succ, List.getElem_cons_zero, List.setIfInBounds_toArray, List.set_cons_zero, List.set_cons_succ]
      (refine wpAnyH_take (i := 17) (v := undef) rfl (by kernel_rfl) (by kernel_rfl) (by kernel_rfl) (fun _ _ _ h => h) (Or.inr ⟨by kernel_rfl, rfl⟩) hHeld ?_)
      simp only [Act.put, List.getElem_toArray, List.getElem_cons_succ, List.getElem_cons_zero, List.setIfInBounds_toArray, List.set_cons_zero, List.set_cons_succ]
      (refine wpAnyH_take (i := 18) (v := undef) rfl (by kernel_rfl) (by kernel_rfl) (by kernel_rfl) (fun _ _ _ h => h) (Or.inr ⟨by kernel_rfl, rfl⟩) hHeld ?_)
      simp only [Act.put, List.getElem_toArray, List.getElem_cons_succ, List.getElem_cons_zero, List.setIfInBounds_toArray, List.set_cons_zero, List.set_cons_succ]
      (refine wpAnyH_take (i := 19) (v := ?hv234) rfl (by kernel_rfl) (by kernel_rfl) (by kernel_rfl) (fun _ _ _ h => h) (Or.inl ⟨by kernel_rfl, ?hy234⟩) hHeld ?hr234; case hy234 => (intro w hSw; (try dsimp only at hSw); go_simp; try with_reducible rfl))
      simp only [Act.put, List.getElem_toArray, List.getElem_cons_succ, List.getElem_cons_zero, List.setIfInBounds_toArray, List.set_cons_zero, List.set_cons_succ]
      (refine wpAnyH_take (i := 20) (v := ?hv235) rfl (by kernel_rfl) (by kernel_rfl) (by kernel_rfl) (fun _ _ _ h => h) (Or.inl ⟨by kernel_rfl, ?hy235⟩) hHeld ?hr235; case hy235 => (intro w hSw; (try dsimp only at hSw); go_simp; try with_reducible rfl))
      simp only [Act.put, List.getElem_toArray, List.getElem_cons_succ, List.getElem_cons_zero, List.setIfInBounds_toArray, List.set_cons_zero, List.set_cons_succ]
      refine wpAnyH_done (by kernel_rfl) ?_ _
      have HF := Lib.hid hHeld
      clear hHeld
      exact NoPanic.normal (hQ _ _ _ _ _ _ _ _ _ _ _ _ _ _ _ _ _ _ _ _ _ HF)

end Go.Proofs.YtdimpopkkjpddaaDoor.DrawC
