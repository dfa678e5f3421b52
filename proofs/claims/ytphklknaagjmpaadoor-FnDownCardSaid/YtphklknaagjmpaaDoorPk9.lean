/- Of this claim's texts the part 9: DnJ DnK DnLaw CodeO. -/
import Derived.ShutString
import Derived.ChangeOld
import Derived.Test.YtphklknaagjmpaaDoorPk8
section
namespace Go.Proofs.YtphklknaagjmpaaDoor.DrawC
open Go.RowKit RepC RowC ValC SpanC KeptC
set_option linter.unusedVariables false
set_option linter.unusedSimpArgs false
set_option maxRecDepth 100000
noncomputable def DR8 : Code := ((Tryd.f3.body.bind (regionOf 8)).getD .skip)
set_option maxHeartbeats 8000000 in
theorem dreg8 {w : World} {dP dB dA eP eB eA xP xB xA yP yB yA gP gB gA : List D_Letter} {da0 da1 da2 ea0 ea1 ea2 xa0 xa1 xa2 ya0 ya1 ya2 ga0 ga1 ga2 : Option Addr} {dc0 dc1 dc2 ec0 ec1 ec2 xc0 xc1 xc2 yc0 yc1 yc2 gc0 gc1 gc2 : Nat} {du dn eu en xu xn xz yu yn yz gu gn f0 f1 t0 t1 z l0 l1 : Int} {b5 b6 b7 b9 b10 b11 b12 b13 : Nat} (B5 : Hid (Blk w b5 25 #[.slice da0 dP.length dc0, .slice da1 dB.length dc1, .slice da2 dA.length dc2, .int .i64 du, .int .i64 dn])) (B6 : Hid (Blk w b6 27 #[.int .i64 f0, .int .i64 f1])) (B7 : Hid (Blk w b7 27 #[.int .i64 t0, .int .i64 t1])) (B9 : Hid (Blk w b9 31 #[.slice xa0 xP.length xc0, .slice xa1 xB.length xc1, .slice xa2 xA.length xc2, .int .i64 xu, .int .i64 xn, .int .i64 xz])) (B10 : Hid (Blk w b10 25 #[.slice ea0 eP.length ec0, .slice ea1 eB.length ec1, .slice ea2 eA.length ec2, .int .i64 eu, .int .i64 en])) (B11 : Hid (Blk w b11 31 #[.slice ya0 yP.length yc0, .slice ya1 yB.length yc1, .slice ya2 yA.length yc2, .int .i64 yu, .int .i64 yn, .int .i64 yz])) (B12 : Hid (Blk w b12 25 #[.slice ga0 gP.length gc0, .slice ga1 gB.length gc1, .slice ga2 gA.length gc2, .int .i64 gu, .int .i64 gn])) (B13 : Hid (Blk w b13 27 #[.int .i64 l0, .int .i64 l1])) (RD : Hid (R_Desk.rd w w.heap.size (dP, dB, dA, du, dn) [.slice da0 dP.length dc0, .slice da1 dB.length dc1, .slice da2 dA.length dc2, .int .i64 du, .int .i64 dn])) (RE : Hid (R_Desk.rd w w.heap.size (eP, eB, eA, eu, en) [.slice ea0 eP.length ec0, .slice ea1 eB.length ec1, .slice ea2 eA.length ec2, .int .i64 eu, .int .i64 en])) (RG : Hid (R_Desk.rd w w.heap.size (gP, gB, gA, gu, gn) [.slice ga0 gP.length gc0, .slice ga1 gB.length gc1, .slice ga2 gA.length gc2, .int .i64 gu, .int .i64 gn])) (RX : Hid (R_DeskStep.rd w w.heap.size ((xP, xB, xA, xu, xn), xz) [.slice xa0 xP.length xc0, .slice xa1 xB.length xc1, .slice xa2 xA.length xc2, .int .i64 xu, .int .i64 xn, .int .i64 xz])) (RY : Hid (R_DeskStep.rd w w.heap.size ((yP, yB, yA, yu, yn), yz) [.slice ya0 yP.length yc0, .slice ya1 yB.length yc1, .slice ya2 yA.length yc2, .int .i64 yu, .int .i64 yn, .int .i64 yz])) (HLET : Hid (letG (dP, dB, dA, du, dn) (f0, f1) (t0, t1) z = ((xP, xB, xA, xu, xn), xz))) (HNEXT : Hid (nextG (eP, eB, eA, eu, en) = ((yP, yB, yA, yu, yn), yz))) (SZD : Hid (R_Desk.sz (dP, dB, dA, du, dn) ≤ 1048576)) (SZE : Hid (R_Desk.sz (eP, eB, eA, eu, en) ≤ 1048576)) (HCX : Hid (xz ≠ 0 ∨ boxB (xP, xB, xA, xu, xn) = true)) (HCY : Hid (yz ≠ 0 ∨ boxB (yP, yB, yA, yu, yn) = true)) {Q : Exit → Act → World → Prop} {z0 z1 z2 z3 z4 z14 z15 z16 z17 z18 z19 z20 z21 z22 z23 z24 z25 z26 z27 z28 z29 z30 z31 z32 z33 z34 z35 z36 z37 z38 z39 z40 z41 z42 z43 z44 z45 z46 z47 z48 z49 z50 z51 z52 z53 z54 z55 z56 z57 z58 z59 z60 z61 z62 z63 z64 z65 z66 z67 z68 z69 z70 z71 z72 z73 z74 z75 z76 z77 z78 z79 z80 z81 z82 z83 z84 z85 z86 z87 z88 z89 z90 z91 z92 z93 z94 z95 z96 z97 z98 z99 z100 z101 z102 z103 z104 z105 z106 z107 z108 z109 z110 z111 z112 z113 z114 z115 z116 z117 z118 z119 z120 z121 z122 z123 z124 z125 z126 z127 z128 z129 z130 z131 z132 z133 z134 z135 z136 z137 z138 z139 z140 z141 z142 z143 z144 : Value}
    (hQ : ∀ (y44 y45 y46 y47 y48 y49 y50 y51 y52 y53 y54 y55 y56 y57 y58 y59 y60 y61 y62 y63 y64 y65 y66 y67 y68 y69 y70 y71 y72 y73 y74 : Value)  (wx : World), Hid (Below w.heap.size w wx) → Q .normal ⟨#[z0, z1, z2, z3, z4, .pointer (some ⟨b5, 0, none⟩), .pointer (some ⟨b6, 0, none⟩), .pointer (some ⟨b7, 0, none⟩), .int .i64 z, .pointer (some ⟨b9, 0, none⟩), .pointer (some ⟨b10, 0, none⟩), .pointer (some ⟨b11, 0, none⟩), .pointer (some ⟨b12, 0, none⟩), .pointer (some ⟨b13, 0, none⟩), z14, z15, z16, z17, z18, z19, z20, z21, z22, z23, z24, z25, z26, z27, z28, z29, z30, z31, z32, z33, z34, z35, z36, z37, z38, z39, z40, z41, z42, z43, y44, y45, y46, y47, y48, y49, y50, y51, y52, y53, y54, y55, y56, y57, y58, y59, y60, y61, y62, y63, y64, y65, y66, y67, y68, y69, y70, y71, y72, y73, y74, .bool false, z76, z77, z78, z79, z80, z81, z82, z83, z84, z85, z86, z87, z88, z89, z90, z91, z92, z93, z94, z95, z96, z97, z98, z99, z100, z101, z102, z103, z104, z105, z106, z107, z108, z109, z110, z111, z112, z113, z114, z115, z116, z117, z118, z119, z120, z121, z122, z123, z124, z125, z126, z127, z128, z129, z130, z131, z132, z133, z134, z135, z136, z137, z138, z139, z140, z141, z142, z143, z144], []⟩ wx) :
    Code.wp Tryd.prog DR8 Q ⟨#[z0, z1, z2, z3, z4, .pointer (some ⟨b5, 0, none⟩), .pointer (some ⟨b6, 0, none⟩), .pointer (some ⟨b7, 0, none⟩), .int .i64 z, .pointer (some ⟨b9, 0, none⟩), .pointer (some ⟨b10, 0, none⟩), .pointer (some ⟨b11, 0, none⟩), .pointer (some ⟨b12, 0, none⟩), .pointer (some ⟨b13, 0, none⟩), z14, z15, z16, z17, z18, z19, z20, z21, z22, z23, z24, z25, z26, z27, z28, z29, z30, z31, z32, z33, z34, z35, z36, z37, z38, z39, z40, z41, z42, z43, z44, z45, z46, z47, z48, z49, z50, z51, z52, z53, z54, z55, z56, z57, z58, z59, z60, z61, z62, z63, z64, z65, z66, z67, z68, z69, z70, z71, z72, z73, z74, z75, z76, z77, z78, z79, z80, z81, z82, z83, z84, z85, z86, z87, z88, z89, z90, z91, z92, z93, z94, z95, z96, z97, z98, z99, z100, z101, z102, z103, z104, z105, z106, z107, z108, z109, z110, z111, z112, z113, z114, z115, z116, z117, z118, z119, z120, z121, z122, z123, z124, z125, z126, z127, z128, z129, z130, z131, z132, z133, z134, z135, z136, z137, z138, z139, z140, z141, z142, z143, z144], []⟩ w := by
  conv => arg 2; whnf
  refine wp_region_noPanic ?_
  refine wp_region_held_drew (S := (fun V => Below (w).heap.size (w) V)) (by kernel_rfl) ((Below.refl _ _).drew) (fun hHeld => ?_)
  refine tk 0 hHeld ?_ (hy := fun w hSw => by (try dsimp only at hSw); have k0 := (hSw.cell (p := ⟨b9, 0, none⟩) B9.out.lt).trans (B9.out.at_ 0 rfl); have k1 := (hSw.cell (p := ⟨b9, 1, none⟩) B9.out.lt).trans (B9.out.at_ 1 rfl); have k2 := (hSw.cell (p := ⟨b9, 2, none⟩) B9.out.lt).trans (B9.out.at_ 2 rfl); have k3 := (hSw.cell (p := ⟨b9, 3, none⟩) B9.out.lt).trans (B9.out.at_ 3 rfl); have k4 := (hSw.cell (p := ⟨b9, 4, none⟩) B9.out.lt).trans (B9.out.at_ 4 rfl); have k5 := (hSw.cell (p := ⟨b9, 5, none⟩) B9.out.lt).trans (B9.out.at_ 5 rfl); clear hSw; go_simp; try with_reducible rfl)
  refine tk 1 hHeld ?_ (hy := fun w hSw => by (try dsimp only at hSw); have k0 := (hSw.cell (p := ⟨b5, 0, none⟩) B5.out.lt).trans (B5.out.at_ 0 rfl); have k1 := (hSw.cell (p := ⟨b5, 1, none⟩) B5.out.lt).trans (B5.out.at_ 1 rfl); have k2 := (hSw.cell (p := ⟨b5, 2, none⟩) B5.out.lt).trans (B5.out.at_ 2 rfl); have k3 := (hSw.cell (p := ⟨b5, 3, none⟩) B5.out.lt).trans (B5.out.at_ 3 rfl); have k4 := (hSw.cell (p := ⟨b5, 4, none⟩) B5.out.lt).trans (B5.out.at_ 4 rfl); clear hSw; go_simp; try with_reducible rfl)
  refine tk 2 hHeld ?_ (hy := fun w hSw => by (try dsimp only at hSw); have k0 := (hSw.cell (p := ⟨b6, 0, none⟩) B6.out.lt).trans (B6.out.at_ 0 rfl); have k1 := (hSw.cell (p := ⟨b6, 1, none⟩) B6.out.lt).trans (B6.out.at_ 1 rfl); clear hSw; go_simp; try with_reducible rfl)
  refine tk 3 hHeld ?_ (hy := fun w hSw => by (try dsimp only at hSw); have k0 := (hSw.cell (p := ⟨b7, 0, none⟩) B7.out.lt).trans (B7.out.at_ 0 rfl); have k1 := (hSw.cell (p := ⟨b7, 1, none⟩) B7.out.lt).trans (B7.out.at_ 1 rfl); clear hSw; go_simp; try with_reducible rfl)
  refine tk 4 hHeld ?_
  refine rd1 5 (fun K hK => ?_)
  go_simp
  go_at_call 10
  refine (gletdown_spec SZD.out (gmv R_Desk_ok RD.out hHeld)).mono ?_
  intro e v h
  rw [HLET.out] at h
  obtain ⟨us, rfl, hu, hb⟩ := newV_elim h
  have NU := Lib.hid (R_DeskStep_ok.ow_rd hu (fun k hk => hk.2))
  clear h hu
  refine hK.out _ _ (hHeld.trans (hb.mono hHeld.size)) (fun hHeld => ?_)
  clear hK K hb
  refine rd1 6 (fun K hK => ?_)
  go_simp
  go_at_call 9
  refine (lwdesk (gmv R_DeskStep_ok RX.out hHeld) NU.out HCX.out).mono ?_
  intro e v h
  obtain ⟨rfl, hb⟩ := isB_elim h
  clear h NU
  refine hK.out _ _ (hHeld.trans (hb.mono hHeld.size)) (fun hHeld => ?_)
  clear hK K hb
  refine tk 7 hHeld ?_
  refine tk 8 hHeld ?_
  refine tk 9 hHeld ?_ (hy := fun w hSw => by (try dsimp only at hSw); have k0 := (hSw.cell (p := ⟨b11, 0, none⟩) B11.out.lt).trans (B11.out.at_ 0 rfl); have k1 := (hSw.cell (p := ⟨b11, 1, none⟩) B11.out.lt).trans (B11.out.at_ 1 rfl); have k2 := (hSw.cell (p := ⟨b11, 2, none⟩) B11.out.lt).trans (B11.out.at_ 2 rfl); have k3 := (hSw.cell (p := ⟨b11, 3, none⟩) B11.out.lt).trans (B11.out.at_ 3 rfl); have k4 := (hSw.cell (p := ⟨b11, 4, none⟩) B11.out.lt).trans (B11.out.at_ 4 rfl); have k5 := (hSw.cell (p := ⟨b11, 5, none⟩) B11.out.lt).trans (B11.out.at_ 5 rfl); clear hSw; go_simp; try with_reducible rfl)
  refine tk 10 hHeld ?_ (hy := fun w hSw => by (try dsimp only at hSw); have k0 := (hSw.cell (p := ⟨b10, 0, none⟩) B10.out.lt).trans (B10.out.at_ 0 rfl); have k1 := (hSw.cell (p := ⟨b10, 1, none⟩) B10.out.lt).trans (B10.out.at_ 1 rfl); have k2 := (hSw.cell (p := ⟨b10, 2, none⟩) B10.out.lt).trans (B10.out.at_ 2 rfl); have k3 := (hSw.cell (p := ⟨b10, 3, none⟩) B10.out.lt).trans (B10.out.at_ 3 rfl); have k4 := (hSw.cell (p := ⟨b10, 4, none⟩) B10.out.lt).trans (B10.out.at_ 4 rfl); clear hSw; go_simp; try with_reducible rfl)
  refine rd1 11 (fun K hK => ?_)
  go_simp
  go_at_call 11
  refine (gnext_spec SZE.out (gmv R_Desk_ok RE.out hHeld)).mono ?_
  intro e v h
  rw [HNEXT.out] at h
  obtain ⟨us, rfl, hu, hb⟩ := newV_elim h
  have NU := Lib.hid (R_DeskStep_ok.ow_rd hu (fun k hk => hk.2))
  clear h hu
  refine hK.out _ _ (hHeld.trans (hb.mono hHeld.size)) (fun hHeld => ?_)
  clear hK K hb
  refine rd1 12 (fun K hK => ?_)
  go_simp
  go_at_call 9
  refine (lwdesk (gmv R_DeskStep_ok RY.out hHeld) NU.out HCY.out).mono ?_
  intro e v h
  obtain ⟨rfl, hb⟩ := isB_elim h
  clear h NU
  refine hK.out _ _ (hHeld.trans (hb.mono hHeld.size)) (fun hHeld => ?_)
  clear hK K hb
  refine tk 13 hHeld ?_
  refine tk 14 hHeld ?_
  refine tk 15 hHeld ?_
  refine tk 16 hHeld ?_ (hy := fun w hSw => by (try dsimp only at hSw); have k0 := (hSw.cell (p := ⟨b12, 0, none⟩) B12.out.lt).trans (B12.out.at_ 0 rfl); have k1 := (hSw.cell (p := ⟨b12, 1, none⟩) B12.out.lt).trans (B12.out.at_ 1 rfl); have k2 := (hSw.cell (p := ⟨b12, 2, none⟩) B12.out.lt).trans (B12.out.at_ 2 rfl); have k3 := (hSw.cell (p := ⟨b12, 3, none⟩) B12.out.lt).trans (B12.out.at_ 3 rfl); have k4 := (hSw.cell (p := ⟨b12, 4, none⟩) B12.out.lt).trans (B12.out.at_ 4 rfl); clear hSw; go_simp; try with_reducible rfl)
  refine tk 17 hHeld ?_ (hy := fun w hSw => by (try dsimp only at hSw); have k0 := (hSw.cell (p := ⟨b13, 0, none⟩) B13.out.lt).trans (B13.out.at_ 0 rfl); have k1 := (hSw.cell (p := ⟨b13, 1, none⟩) B13.out.lt).trans (B13.out.at_ 1 rfl); clear hSw; go_simp; try with_reducible rfl)
  refine tk 19 hHeld ?_ (hy := fun w hSw => by (try dsimp only at hSw); have k0 := (hSw.cell (p := ⟨b12, 0, none⟩) B12.out.lt).trans (B12.out.at_ 0 rfl); have k1 := (hSw.cell (p := ⟨b12, 1, none⟩) B12.out.lt).trans (B12.out.at_ 1 rfl); have k2 := (hSw.cell (p := ⟨b12, 2, none⟩) B12.out.lt).trans (B12.out.at_ 2 rfl); have k3 := (hSw.cell (p := ⟨b12, 3, none⟩) B12.out.lt).trans (B12.out.at_ 3 rfl); have k4 := (hSw.cell (p := ⟨b12, 4, none⟩) B12.out.lt).trans (B12.out.at_ 4 rfl); clear hSw; go_simp; try with_reducible rfl)
  refine tk 20 hHeld ?_ (hy := fun w hSw => by (try dsimp only at hSw); have k0 := (hSw.cell (p := ⟨b13, 0, none⟩) B13.out.lt).trans (B13.out.at_ 0 rfl); have k1 := (hSw.cell (p := ⟨b13, 1, none⟩) B13.out.lt).trans (B13.out.at_ 1 rfl); clear hSw; go_simp; try with_reducible rfl)
  refine rd1 18 (fun K hK => ?_)
  go_simp
  go_at_call 13
  refine (greads_impl (gmv R_Desk_ok RG.out hHeld)).mono ?_
  intro e v h
  obtain ⟨ra, rc, rfl, ho, hb⟩ := newS_elim h
  have N1 := Lib.hid (ho.rd I_ok fun k hk => hk.2)
  clear h ho
  refine hK.out _ _ (hHeld.trans (hb.mono hHeld.size)) (fun hHeld => ?_)
  clear hK K hb
  refine rd1 21 (fun K hK => ?_)
  go_simp
  go_at_call 14
  refine (greads_spec (gmv R_Desk_ok RG.out hHeld)).mono ?_
  intro e v h
  obtain ⟨sa, sc, rfl, ho, hb⟩ := newS_elim h
  have N1 := Lib.hid (gmvS N1.out hb I_ok)
  have N2 := Lib.hid (ho.rd I_ok fun k hk => hk.2)
  clear h ho
  refine hK.out _ _ (hHeld.trans (hb.mono hHeld.size)) (fun hHeld => ?_)
  clear hK K hb
  refine rd1 22 (fun K hK => ?_)
  go_simp
  go_at_call 12
  refine (lwnums N1.out N2.out).mono ?_
  intro e v h
  obtain ⟨rfl, hb⟩ := isB_elim h
  clear h N1 N2
  refine hK.out _ _ (hHeld.trans (hb.mono hHeld.size)) (fun hHeld => ?_)
  clear hK K hb
  refine tk 23 hHeld ?_
  refine tk 24 hHeld ?_
  refine tk 25 hHeld ?_
  refine tk 26 hHeld ?_ (hy := fun w hSw => by (try dsimp only at hSw); have k0 := (hSw.cell (p := ⟨b5, 0, none⟩) B5.out.lt).trans (B5.out.at_ 0 rfl); have k1 := (hSw.cell (p := ⟨b5, 1, none⟩) B5.out.lt).trans (B5.out.at_ 1 rfl); have k2 := (hSw.cell (p := ⟨b5, 2, none⟩) B5.out.lt).trans (B5.out.at_ 2 rfl); have k3 := (hSw.cell (p := ⟨b5, 3, none⟩) B5.out.lt).trans (B5.out.at_ 3 rfl); have k4 := (hSw.cell (p := ⟨b5, 4, none⟩) B5.out.lt).trans (B5.out.at_ 4 rfl); clear hSw; go_simp; try with_reducible rfl)
  refine tk 28 hHeld ?_ (hy := fun w hSw => by (try dsimp only at hSw); have k0 := (hSw.cell (p := ⟨b5, 0, none⟩) B5.out.lt).trans (B5.out.at_ 0 rfl); have k1 := (hSw.cell (p := ⟨b5, 1, none⟩) B5.out.lt).trans (B5.out.at_ 1 rfl); have k2 := (hSw.cell (p := ⟨b5, 2, none⟩) B5.out.lt).trans (B5.out.at_ 2 rfl); have k3 := (hSw.cell (p := ⟨b5, 3, none⟩) B5.out.lt).trans (B5.out.at_ 3 rfl); have k4 := (hSw.cell (p := ⟨b5, 4, none⟩) B5.out.lt).trans (B5.out.at_ 4 rfl); clear hSw; go_simp; try with_reducible rfl)
  refine rd1 27 (fun K hK => ?_)
  go_simp
  go_at_call 15
  refine (gbox_impl (gmv R_Desk_ok RD.out hHeld)).mono ?_
  intro e v h
  obtain ⟨rfl, hb⟩ := isB_elim h
  clear h
  refine hK.out _ _ (hHeld.trans (hb.mono hHeld.size)) (fun hHeld => ?_)
  clear hK K hb
  refine rd1 29 (fun K hK => ?_)
  go_simp
  go_at_call 16
  refine (gbox_spec (gmv R_Desk_ok RD.out hHeld)).mono ?_
  intro e v h
  obtain ⟨rfl, hb⟩ := isB_elim h
  clear h
  refine hK.out _ _ (hHeld.trans (hb.mono hHeld.size)) (fun hHeld => ?_)
  clear hK K hb
  refine tk 30 hHeld ?_
  refine tk 31 hHeld ?_
  refine rd0 ?_
  have HF := Lib.hid hHeld
  clear hHeld
  exact NoPanic.normal (hQ _ _ _ _ _ _ _ _ _ _ _ _ _ _ _ _ _ _ _ _ _ _ _ _ _ _ _ _ _ _ _ _ HF)
end Go.Proofs.YtphklknaagjmpaaDoor.DrawC
end
section
namespace Go.Proofs.YtphklknaagjmpaaDoor.DrawC
open Go.RowKit RepC RowC ValC SpanC KeptC
set_option linter.unusedVariables false
set_option linter.unusedSimpArgs false
set_option maxRecDepth 100000
theorem rdsl_front {α : Type} {E : Rp α} {W : World} {B : Nat} {L M : List α} {a : Option Addr} {c : Nat} (h : RdSl E W B (L ++ M) a c) : RdSl E W B L a c := by
  refine ⟨?_, h.2.1, fun hp => ?_⟩
  · have := h.1
    simp at this
    omega
  · obtain ⟨g, o, ha, hg, hel⟩ := h.2.2 (by simp; omega)
    exact ⟨g, o, ha, hg, fun i x hx => hel i x (by rw [List.getElem?_append_left (List.getElem?_eq_some_iff.1 hx).1]; exact hx)⟩
noncomputable def DR15 : Code := ((Tryd.f3.body.bind (regionOf 15)).getD .skip)
set_option maxHeartbeats 8000000 in
theorem dreg15 {w : World} {gx ox rg ro rc k : Nat} {dP dB dA xP xB xA : List D_Letter} {da0 da1 da2 xa0 xa1 : Option Addr} {dc0 dc1 dc2 xc0 xc1 xc2 : Nat} {du dn xu xn xz z : Int} {b5 b9 : Nat} (B5 : Hid (Blk w b5 25 #[.slice da0 dP.length dc0, .slice da1 dB.length dc1, .slice da2 dA.length dc2, .int .i64 du, .int .i64 dn])) (B9 : Hid (Blk w b9 31 #[.slice xa0 xP.length xc0, .slice xa1 xB.length xc1, .slice (some ⟨gx, ox, none⟩) xA.length xc2, .int .i64 xu, .int .i64 xn, .int .i64 xz])) (HRE : Hid (w.cell? ⟨rg, ro + k, none⟩ = some (.int .i64 z))) (hrg : rg < w.heap.size) (hk : (k : Int) + 1 ≤ 9223372036854775807) (hxl : xA.length = dA.length + 1) (hxc : xA.length ≤ xc2) (hxm : (xA.length : Int) ≤ 9223372036854775807) (hxu : xu ≤ 2) (HP1 : Hid (RdSl R_Letter w w.heap.size dA (some ⟨gx, ox, none⟩) xc2)) (HP2 : Hid (RdSl R_Letter w w.heap.size dA da2 dc2)) {Q : Exit → Act → World → Prop} {z0 z1 z2 z3 z4 z6 z7 z10 z11 z12 z13 z15 z16 z17 z18 z19 z20 z21 z22 z23 z24 z25 z26 z27 z28 z29 z30 z31 z32 z33 z34 z35 z36 z37 z38 z39 z40 z41 z42 z43 z44 z45 z46 z47 z48 z49 z50 z51 z52 z53 z54 z55 z56 z57 z58 z59 z60 z61 z62 z63 z64 z65 z66 z67 z68 z69 z70 z71 z72 z73 z74 z75 z76 z77 z78 z79 z80 z81 z82 z83 z84 z85 z86 z87 z88 z89 z90 z91 z92 z93 z94 z95 z96 z97 z98 z99 z100 z101 z102 z103 z104 z105 z106 z107 z108 z109 z110 z111 z112 z113 z114 z115 z116 z117 z118 z119 z120 z121 z122 z123 z124 z125 z126 z127 z128 z129 z130 z131 z132 z133 z134 z135 z136 z137 z138 z139 z140 z141 z142 z143 z144 : Value}
    (hQ : ∀ (y103 y104 y105 y106 y107 y108 y109 y110 y111 y112 y113 y114 y115 y116 y117 y118 y119 y120 y121 y122 y123 y124 y125 y126 y127 y128 y129 y130 y131 y132 y133 y134 y135 y136 y137 y138 y139 y140 y141 y142 y143 y144 : Value)  (wx : World), Hid (Below w.heap.size w wx) → Q .normal ⟨#[z0, z1, z2, z3, .bool true, .pointer (some ⟨b5, 0, none⟩), z6, z7, .int .i64 z, .pointer (some ⟨b9, 0, none⟩), z10, z11, z12, z13, .slice (some ⟨rg, ro, none⟩) (k + 1) rc, z15, z16, z17, z18, z19, z20, z21, z22, z23, z24, z25, z26, z27, z28, z29, z30, z31, z32, z33, z34, z35, z36, z37, z38, z39, z40, z41, z42, z43, z44, z45, z46, z47, z48, z49, z50, z51, z52, z53, z54, z55, z56, z57, z58, z59, z60, z61, z62, z63, z64, z65, z66, z67, z68, z69, z70, z71, z72, z73, z74, z75, z76, z77, z78, z79, z80, z81, z82, z83, z84, z85, z86, z87, z88, z89, z90, z91, z92, z93, z94, z95, z96, z97, z98, z99, z100, z101, z102, y103, y104, y105, y106, y107, y108, y109, y110, y111, y112, y113, y114, y115, y116, y117, y118, y119, y120, y121, y122, y123, y124, y125, y126, y127, y128, y129, y130, y131, y132, y133, y134, y135, y136, y137, y138, y139, y140, y141, y142, y143, y144], []⟩ wx) :
    Code.wp Tryd.prog DR15 Q ⟨#[z0, z1, z2, z3, z4, .pointer (some ⟨b5, 0, none⟩), z6, z7, .int .i64 z, .pointer (some ⟨b9, 0, none⟩), z10, z11, z12, z13, .slice (some ⟨rg, ro, none⟩) (k + 1) rc, z15, z16, z17, z18, z19, z20, z21, z22, z23, z24, z25, z26, z27, z28, z29, z30, z31, z32, z33, z34, z35, z36, z37, z38, z39, z40, z41, z42, z43, z44, z45, z46, z47, z48, z49, z50, z51, z52, z53, z54, z55, z56, z57, z58, z59, z60, z61, z62, z63, z64, z65, z66, z67, z68, z69, z70, z71, z72, z73, z74, z75, z76, z77, z78, z79, z80, z81, z82, z83, z84, z85, z86, z87, z88, z89, z90, z91, z92, z93, z94, z95, z96, z97, z98, z99, z100, z101, z102, z103, z104, z105, z106, z107, z108, z109, z110, z111, z112, z113, z114, z115, z116, z117, z118, z119, z120, z121, z122, z123, z124, z125, z126, z127, z128, z129, z130, z131, z132, z133, z134, z135, z136, z137, z138, z139, z140, z141, z142, z143, z144], []⟩ w := by
  conv => arg 2; whnf
  refine wp_region_noPanic ?_
  have hk0 : (0 : Int) ≤ (k : Int) := Int.natCast_nonneg _
  have hk1 : (k : Int) < (k : Int) + 1 := by omega
  have hkw : IntKind.i64.wrap (k : Int) = (k : Int) := IntWalk.i64_in _ (by omega)
  have hxw : IntKind.i64.wrap ((dA.length : Int) + 1) = (dA.length : Int) + 1 := IntWalk.i64_in _ (by omega)
  have hd1 : decide ((0 : Int) < (k : Int) + 1) = true := decide_eq_true (by omega)
  have hxi : (xA.length : Int) = (dA.length : Int) + 1 := by omega
  have hd3 : decide (xu ≤ 2) = true := decide_eq_true hxu
  have hdc : dA.length ≤ xc2 := by omega
  refine wp_region_held_drew (S := (fun V => Below (w).heap.size (w) V)) (by kernel_rfl) ((Below.refl _ _).drew) (fun hHeld => ?_)
  refine tk 0 hHeld ?_
  refine tk 1 hHeld ?_
  refine tk 2 hHeld ?_
  refine tk 3 hHeld ?_
  refine tk 4 hHeld ?_
  refine tk 5 hHeld ?_
  refine tk 6 hHeld ?_
  refine tk 7 hHeld ?_
  refine tk 8 hHeld ?_
  refine tk 9 hHeld ?_ (hy := fun w hSw => by (try dsimp only at hSw); have k0 := (hSw.cell (p := ⟨rg, ro + k, none⟩) hrg).trans HRE.out; clear hSw; go_simp; try with_reducible rfl)
  refine tk 10 hHeld ?_
  refine tk 11 hHeld ?_
  refine tk 12 hHeld ?_
  refine tk 13 hHeld ?_
  refine tk 14 hHeld ?_
  refine tk 15 hHeld ?_
  refine tk 16 hHeld ?_ (hy := fun w hSw => by (try dsimp only at hSw); have k0 := (hSw.cell (p := ⟨b9, 2, none⟩) B9.out.lt).trans (B9.out.at_ 2 rfl); clear hSw; go_simp; try with_reducible rfl)
  refine tk 17 hHeld ?_
  refine tk 18 hHeld ?_
  refine tk 19 hHeld ?_ (hy := fun w hSw => by (try dsimp only at hSw); have k0 := (hSw.cell (p := ⟨b5, 2, none⟩) B5.out.lt).trans (B5.out.at_ 2 rfl); clear hSw; go_simp; try with_reducible rfl)
  refine tk 20 hHeld ?_
  refine tk 21 hHeld ?_
  refine tk 22 hHeld ?_
  refine tk 23 hHeld ?_
  refine tk 24 hHeld ?_
  refine tk 25 hHeld ?_
  refine tk 26 hHeld ?_
  refine tk 27 hHeld ?_ (hy := fun w hSw => by (try dsimp only at hSw); have k0 := (hSw.cell (p := ⟨b9, 3, none⟩) B9.out.lt).trans (B9.out.at_ 3 rfl); clear hSw; go_simp; try with_reducible rfl)
  refine tk 28 hHeld ?_
  refine tk 29 hHeld ?_
  refine tk 30 hHeld ?_
  refine tk 31 hHeld ?_
  refine tk 32 hHeld ?_
  refine tk 33 hHeld ?_ (hy := fun w hSw => by (try dsimp only at hSw); have k0 := (hSw.cell (p := ⟨b9, 2, none⟩) B9.out.lt).trans (B9.out.at_ 2 rfl); clear hSw; go_simp; try with_reducible rfl)
  refine tk 34 hHeld ?_
  refine tk 35 hHeld ?_ (hy := fun w hSw => by (try dsimp only at hSw); have k0 := (hSw.cell (p := ⟨b5, 2, none⟩) B5.out.lt).trans (B5.out.at_ 2 rfl); clear hSw; go_simp; try with_reducible rfl)
  refine tk 36 hHeld ?_
  refine tk 37 hHeld ?_
  refine tk 38 hHeld ?_
  refine tk 39 hHeld ?_ (hy := fun w hSw => by (try dsimp only at hSw); have k0 := (hSw.cell (p := ⟨b5, 2, none⟩) B5.out.lt).trans (B5.out.at_ 2 rfl); clear hSw; go_simp; try with_reducible rfl)
  refine rd1 40 (fun K hK => ?_)
  go_simp
  go_at_call 17
  refine (lwletters (gmvS HP1.out hHeld) (gmvS HP2.out hHeld)).mono ?_
  intro e v h
  obtain ⟨rfl, hb⟩ := isB_elim h
  clear h
  refine hK.out _ _ (hHeld.trans (hb.mono hHeld.size)) (fun hHeld => ?_)
  clear hK K hb
  refine tk 41 hHeld ?_
  refine tk 42 hHeld ?_
  refine rd0 ?_
  have HF := Lib.hid hHeld
  clear hHeld
  exact NoPanic.normal (hQ _ _ _ _ _ _ _ _ _ _ _ _ _ _ _ _ _ _ _ _ _ _ _ _ _ _ _ _ _ _ _ _ _ _ _ _ _ _ _ _ _ _ _ HF)
end Go.Proofs.YtphklknaagjmpaaDoor.DrawC
end
section
namespace Go.Proofs.YtphklknaagjmpaaDoor.DrawC
open Go.RowKit RepC RowC ValC SpanC KeptC SenC
set_option linter.unusedVariables false
set_option linter.unusedSimpArgs false
set_option maxRecDepth 100000 in
set_option maxHeartbeats 16000000 in
theorem law_down (ba : Option Addr) (la ca : Nat) (bm : Option Addr) (lm cm : Nat) (W : World) {s1 s2 s3 s4 : Addr} (hS : Sent W s1 s2 s3 s4) (hC : CodeIn W ba la) (hM : CodeIn W bm lm) :
    Calls Tryd.prog 3 #[.slice ba la ca, .slice bm lm cm] W fun e w' => e = .returned (.bool true) ∧ Below W.heap.size W w' := by
  have HSEN := Lib.hid hS
  have HC := Lib.hid hC
  have HM := Lib.hid hM
  clear hS hC hM
  go_enter Tryd.func3, Tryd.ntmps3
  by_cases hla : la ≤ 1048576
  · by_cases hlm : lm ≤ 1048576
    · have d1 : decide ((1048576 : Int) < (la : Int)) = false := decide_eq_false (by omega)
      have d2 : decide ((1048576 : Int) < (lm : Int)) = false := decide_eq_false (by omega)
      go_wp2_with fail
      have HB := Lib.hid (Below.refl W.heap.size W)
      refine (draw_letdown ba la ca _ hla HC.out).mono ?_
      intro e w1 h
      obtain ⟨dP, dB, dA, du, dn, da0, dc0, da1, dc1, da2, dc2, f0, f1, t0, t1, z, rfl, hLEN, hR, hb⟩ := h
      have HB := Lib.hid (HB.out.trans (hb.mono HB.out.size))
      clear hb
      have RD := Lib.hid (hR.rd du dn)
      have SDA := Lib.hid (hR.z.ow.rd R_Letter_ok fun k hk => (hR.z.blk k hk).2)
      have HLD := Lib.hid hLEN
      clear hR hLEN
      have SZD := Lib.hid (show R_Desk.sz (dP, dB, dA, du, dn) ≤ 1048576 from by rw [szd_Desk2]; have := HLD.out; omega)
      obtain ⟨W2, hV⟩ : ∃ x, x = (((w1.alloc (.cells #[.slice da0 dP.length dc0, .slice da1 dB.length dc1, .slice da2 dA.length dc2, .int .i64 du, .int .i64 dn] 25)).alloc (.cells #[.int .i64 f0, .int .i64 f1] 27)).alloc (.cells #[.int .i64 t0, .int .i64 t1] 27)) := ⟨_, rfl⟩
      have hb : Below w1.heap.size w1 W2 := by rw [hV]; exact ((((Below.refl _ _).alloc (Nat.le_refl _) _).alloc (by simp) _).alloc (by simp; omega) _)
      have hq5 : Blk W2 (w1.heap.size) 25 #[.slice da0 dP.length dc0, .slice da1 dB.length dc1, .slice da2 dA.length dc2, .int .i64 du, .int .i64 dn] := by
        have h9 := ((Blk.new w1 25 #[.slice da0 dP.length dc0, .slice da1 dB.length dc1, .slice da2 dA.length dc2, .int .i64 du, .int .i64 dn]).alloc (.cells #[.int .i64 f0, .int .i64 f1] 27)).alloc (.cells #[.int .i64 t0, .int .i64 t1] 27)
        rw [hV]; exact h9
      have hq6 : Blk W2 (w1.heap.size + 1) 27 #[.int .i64 f0, .int .i64 f1] := by
        have h9 := (Blk.new (w1.alloc (.cells #[.slice da0 dP.length dc0, .slice da1 dB.length dc1, .slice da2 dA.length dc2, .int .i64 du, .int .i64 dn] 25)) 27 #[.int .i64 f0, .int .i64 f1]).alloc (.cells #[.int .i64 t0, .int .i64 t1] 27)
        simp only [World.size_alloc] at h9
        rw [hV]; exact h9
      have hq7 : Blk W2 (w1.heap.size + 1 + 1) 27 #[.int .i64 t0, .int .i64 t1] := by
        have h9 := Blk.new ((w1.alloc (.cells #[.slice da0 dP.length dc0, .slice da1 dB.length dc1, .slice da2 dA.length dc2, .int .i64 du, .int .i64 dn] 25)).alloc (.cells #[.int .i64 f0, .int .i64 f1] 27)) 27 #[.int .i64 t0, .int .i64 t1]
        simp only [World.size_alloc] at h9
        rw [hV]; exact h9
      obtain ⟨b5, hn5⟩ : ∃ b, b = w1.heap.size := ⟨_, rfl⟩
      obtain ⟨b6, hn6⟩ : ∃ b, b = w1.heap.size + 1 := ⟨_, rfl⟩
      obtain ⟨b7, hn7⟩ : ∃ b, b = w1.heap.size + 1 + 1 := ⟨_, rfl⟩
      have RD := Lib.hid (gmv R_Desk_ok RD.out hb)
      have SDA := Lib.hid (gmvS SDA.out hb R_Letter_ok)
      have HB := Lib.hid (HB.out.trans (hb.mono HB.out.size))
      clear hb
      have B5 := Lib.hid (show Blk W2 b5 25 #[.slice da0 dP.length dc0, .slice da1 dB.length dc1, .slice da2 dA.length dc2, .int .i64 du, .int .i64 dn] from by rw [hn5]; exact hq5)
      have B6 := Lib.hid (show Blk W2 b6 27 #[.int .i64 f0, .int .i64 f1] from by rw [hn6]; exact hq6)
      have B7 := Lib.hid (show Blk W2 b7 27 #[.int .i64 t0, .int .i64 t1] from by rw [hn7]; exact hq7)
      clear hq5 hq6 hq7
      go_upto_region 4 with fail
      rw [← hV]
      try rw [← hn7, ← hn6, ← hn5]
      clear hV hn5 hn6 hn7
      obtain ⟨⟨⟨xP, xB, xA, xu, xn⟩, xz⟩, hX⟩ : ∃ d, letG (dP, dB, dA, du, dn) (f0, f1) (t0, t1) z = d := ⟨_, rfl⟩
      have HLET := Lib.hid hX
      clear hX
      have q5_0 := B5.out.at_ 0 rfl
      have q5_1 := B5.out.at_ 1 rfl
      have q5_2 := B5.out.at_ 2 rfl
      have q5_3 := B5.out.at_ 3 rfl
      have q5_4 := B5.out.at_ 4 rfl
      have q6_0 := B6.out.at_ 0 rfl
      have q6_1 := B6.out.at_ 1 rfl
      have q7_0 := B7.out.at_ 0 rfl
      have q7_1 := B7.out.at_ 1 rfl
      go_wp2_with fail
      refine (gletdown_impl (HSEN.out.mv HB.out) RD.out).mono ?_
      intro e w3 h
      rw [HLET.out] at h
      obtain ⟨us, rfl, hu, hb⟩ := newV_elim h
      have hu2 := R_DeskStep_ok.ow_rd hu (fun k hk => hk.2)
      obtain ⟨xa0, xc0, xa1, xc1, xa2, xc2, rfl, j0, j1, j2⟩ := rd_DeskStep hu2
      clear h hu q5_0 q5_1 q5_2 q5_3 q5_4 q6_0 q6_1 q7_0 q7_1
      have B5 := Lib.hid (B5.out.call hb)
      have B6 := Lib.hid (B6.out.call hb)
      have B7 := Lib.hid (B7.out.call hb)
      have RD := Lib.hid (gmv R_Desk_ok RD.out hb)
      have SDA := Lib.hid (gmvS SDA.out hb R_Letter_ok)
      have HB := Lib.hid (HB.out.trans (hb.mono HB.out.size))
      clear hb
      have RX := Lib.hid hu2
      have RXD := Lib.hid (show R_Desk.rd w3 w3.heap.size (xP, xB, xA, xu, xn) [.slice xa0 xP.length xc0, .slice xa1 xB.length xc1, .slice xa2 xA.length xc2, .int .i64 xu, .int .i64 xn] from mkrd_Desk j0 j1 j2)
      have SXA := Lib.hid j2
      clear hu2 j0 j1 j2
      obtain ⟨W4, hV⟩ : ∃ x, x = (w3.alloc (.cells #[.slice xa0 xP.length xc0, .slice xa1 xB.length xc1, .slice xa2 xA.length xc2, .int .i64 xu, .int .i64 xn, .int .i64 xz] 31)) := ⟨_, rfl⟩
      have hb : Below w3.heap.size w3 W4 := by rw [hV]; exact ((Below.refl _ _).alloc (Nat.le_refl _) _)
      have hq9 : Blk W4 (w3.heap.size) 31 #[.slice xa0 xP.length xc0, .slice xa1 xB.length xc1, .slice xa2 xA.length xc2, .int .i64 xu, .int .i64 xn, .int .i64 xz] := by
        have h9 := Blk.new w3 31 #[.slice xa0 xP.length xc0, .slice xa1 xB.length xc1, .slice xa2 xA.length xc2, .int .i64 xu, .int .i64 xn, .int .i64 xz]
        rw [hV]; exact h9
      obtain ⟨b9, hn9⟩ : ∃ b, b = w3.heap.size := ⟨_, rfl⟩
      have B5 := Lib.hid (B5.out.call hb)
      have B6 := Lib.hid (B6.out.call hb)
      have B7 := Lib.hid (B7.out.call hb)
      have RD := Lib.hid (gmv R_Desk_ok RD.out hb)
      have RX := Lib.hid (gmv R_DeskStep_ok RX.out hb)
      have RXD := Lib.hid (gmv R_Desk_ok RXD.out hb)
      have SDA := Lib.hid (gmvS SDA.out hb R_Letter_ok)
      have SXA := Lib.hid (gmvS SXA.out hb R_Letter_ok)
      have HB := Lib.hid (HB.out.trans (hb.mono HB.out.size))
      clear hb
      have B9 := Lib.hid (show Blk W4 b9 31 #[.slice xa0 xP.length xc0, .slice xa1 xB.length xc1, .slice xa2 xA.length xc2, .int .i64 xu, .int .i64 xn, .int .i64 xz] from by rw [hn9]; exact hq9)
      clear hq9
      go_upto_region 5 with fail
      rw [← hV]
      try rw [← hn9]
      clear hV hn9
      go_wp2_with fail
      refine (draw_nexttime bm lm cm _ hlm (HM.out.below HB.out)).mono ?_
      intro e w5 h
      obtain ⟨eP, eB, eA, eu, en, ea0, ec0, ea1, ec1, ea2, ec2, rfl, hLEN, hR, hb⟩ := h
      have B5 := Lib.hid (B5.out.call hb)
      have B6 := Lib.hid (B6.out.call hb)
      have B7 := Lib.hid (B7.out.call hb)
      have B9 := Lib.hid (B9.out.call hb)
      have RD := Lib.hid (gmv R_Desk_ok RD.out hb)
      have RX := Lib.hid (gmv R_DeskStep_ok RX.out hb)
      have RXD := Lib.hid (gmv R_Desk_ok RXD.out hb)
      have SDA := Lib.hid (gmvS SDA.out hb R_Letter_ok)
      have SXA := Lib.hid (gmvS SXA.out hb R_Letter_ok)
      have HB := Lib.hid (HB.out.trans (hb.mono HB.out.size))
      clear hb
      have RE := Lib.hid (hR.rd eu en)
      have SEA := Lib.hid (hR.z.ow.rd R_Letter_ok fun k hk => (hR.z.blk k hk).2)
      have HLE := Lib.hid hLEN
      clear hR hLEN
      have SZE := Lib.hid (show R_Desk.sz (eP, eB, eA, eu, en) ≤ 1048576 from by rw [szd_Desk2]; have := HLE.out; omega)
      obtain ⟨W6, hV⟩ : ∃ x, x = (w5.alloc (.cells #[.slice ea0 eP.length ec0, .slice ea1 eB.length ec1, .slice ea2 eA.length ec2, .int .i64 eu, .int .i64 en] 25)) := ⟨_, rfl⟩
      have hb : Below w5.heap.size w5 W6 := by rw [hV]; exact ((Below.refl _ _).alloc (Nat.le_refl _) _)
      have hq10 : Blk W6 (w5.heap.size) 25 #[.slice ea0 eP.length ec0, .slice ea1 eB.length ec1, .slice ea2 eA.length ec2, .int .i64 eu, .int .i64 en] := by
        have h9 := Blk.new w5 25 #[.slice ea0 eP.length ec0, .slice ea1 eB.length ec1, .slice ea2 eA.length ec2, .int .i64 eu, .int .i64 en]
        rw [hV]; exact h9
      obtain ⟨b10, hn10⟩ : ∃ b, b = w5.heap.size := ⟨_, rfl⟩
      have B5 := Lib.hid (B5.out.call hb)
      have B6 := Lib.hid (B6.out.call hb)
      have B7 := Lib.hid (B7.out.call hb)
      have B9 := Lib.hid (B9.out.call hb)
      have RD := Lib.hid (gmv R_Desk_ok RD.out hb)
      have RX := Lib.hid (gmv R_DeskStep_ok RX.out hb)
      have RXD := Lib.hid (gmv R_Desk_ok RXD.out hb)
      have RE := Lib.hid (gmv R_Desk_ok RE.out hb)
      have SDA := Lib.hid (gmvS SDA.out hb R_Letter_ok)
      have SXA := Lib.hid (gmvS SXA.out hb R_Letter_ok)
      have SEA := Lib.hid (gmvS SEA.out hb R_Letter_ok)
      have HB := Lib.hid (HB.out.trans (hb.mono HB.out.size))
      clear hb
      have B10 := Lib.hid (show Blk W6 b10 25 #[.slice ea0 eP.length ec0, .slice ea1 eB.length ec1, .slice ea2 eA.length ec2, .int .i64 eu, .int .i64 en] from by rw [hn10]; exact hq10)
      clear hq10
      go_upto_region 6 with fail
      rw [← hV]
      try rw [← hn10]
      clear hV hn10
      obtain ⟨⟨⟨yP, yB, yA, yu, yn⟩, yz⟩, hY⟩ : ∃ d, nextG (eP, eB, eA, eu, en) = d := ⟨_, rfl⟩
      have HNEXT := Lib.hid hY
      clear hY
      have q10_0 := B10.out.at_ 0 rfl
      have q10_1 := B10.out.at_ 1 rfl
      have q10_2 := B10.out.at_ 2 rfl
      have q10_3 := B10.out.at_ 3 rfl
      have q10_4 := B10.out.at_ 4 rfl
      go_wp2_with fail
      refine (gnext_impl (HSEN.out.mv HB.out) RE.out).mono ?_
      intro e w7 h
      rw [HNEXT.out] at h
      obtain ⟨us, rfl, hu, hb⟩ := newV_elim h
      have hu2 := R_DeskStep_ok.ow_rd hu (fun k hk => hk.2)
      obtain ⟨ya0, yc0, ya1, yc1, ya2, yc2, rfl, j0, j1, j2⟩ := rd_DeskStep hu2
      clear h hu q10_0 q10_1 q10_2 q10_3 q10_4
      have B5 := Lib.hid (B5.out.call hb)
      have B6 := Lib.hid (B6.out.call hb)
      have B7 := Lib.hid (B7.out.call hb)
      have B9 := Lib.hid (B9.out.call hb)
      have B10 := Lib.hid (B10.out.call hb)
      have RD := Lib.hid (gmv R_Desk_ok RD.out hb)
      have RX := Lib.hid (gmv R_DeskStep_ok RX.out hb)
      have RXD := Lib.hid (gmv R_Desk_ok RXD.out hb)
      have RE := Lib.hid (gmv R_Desk_ok RE.out hb)
      have SDA := Lib.hid (gmvS SDA.out hb R_Letter_ok)
      have SXA := Lib.hid (gmvS SXA.out hb R_Letter_ok)
      have SEA := Lib.hid (gmvS SEA.out hb R_Letter_ok)
      have HB := Lib.hid (HB.out.trans (hb.mono HB.out.size))
      clear hb
      have RY := Lib.hid hu2
      have RYD := Lib.hid (show R_Desk.rd w7 w7.heap.size (yP, yB, yA, yu, yn) [.slice ya0 yP.length yc0, .slice ya1 yB.length yc1, .slice ya2 yA.length yc2, .int .i64 yu, .int .i64 yn] from mkrd_Desk j0 j1 j2)
      have SYA := Lib.hid j2
      clear hu2 j0 j1 j2
      obtain ⟨W8, hV⟩ : ∃ x, x = (w7.alloc (.cells #[.slice ya0 yP.length yc0, .slice ya1 yB.length yc1, .slice ya2 yA.length yc2, .int .i64 yu, .int .i64 yn, .int .i64 yz] 31)) := ⟨_, rfl⟩
      have hb : Below w7.heap.size w7 W8 := by rw [hV]; exact ((Below.refl _ _).alloc (Nat.le_refl _) _)
      have hq11 : Blk W8 (w7.heap.size) 31 #[.slice ya0 yP.length yc0, .slice ya1 yB.length yc1, .slice ya2 yA.length yc2, .int .i64 yu, .int .i64 yn, .int .i64 yz] := by
        have h9 := Blk.new w7 31 #[.slice ya0 yP.length yc0, .slice ya1 yB.length yc1, .slice ya2 yA.length yc2, .int .i64 yu, .int .i64 yn, .int .i64 yz]
        rw [hV]; exact h9
      obtain ⟨b11, hn11⟩ : ∃ b, b = w7.heap.size := ⟨_, rfl⟩
      have B5 := Lib.hid (B5.out.call hb)
      have B6 := Lib.hid (B6.out.call hb)
      have B7 := Lib.hid (B7.out.call hb)
      have B9 := Lib.hid (B9.out.call hb)
      have B10 := Lib.hid (B10.out.call hb)
      have RD := Lib.hid (gmv R_Desk_ok RD.out hb)
      have RX := Lib.hid (gmv R_DeskStep_ok RX.out hb)
      have RXD := Lib.hid (gmv R_Desk_ok RXD.out hb)
      have RE := Lib.hid (gmv R_Desk_ok RE.out hb)
      have RY := Lib.hid (gmv R_DeskStep_ok RY.out hb)
      have RYD := Lib.hid (gmv R_Desk_ok RYD.out hb)
      have SDA := Lib.hid (gmvS SDA.out hb R_Letter_ok)
      have SXA := Lib.hid (gmvS SXA.out hb R_Letter_ok)
      have SEA := Lib.hid (gmvS SEA.out hb R_Letter_ok)
      have SYA := Lib.hid (gmvS SYA.out hb R_Letter_ok)
      have HB := Lib.hid (HB.out.trans (hb.mono HB.out.size))
      clear hb
      have B11 := Lib.hid (show Blk W8 b11 31 #[.slice ya0 yP.length yc0, .slice ya1 yB.length yc1, .slice ya2 yA.length yc2, .int .i64 yu, .int .i64 yn, .int .i64 yz] from by rw [hn11]; exact hq11)
      clear hq11
      go_upto_region 7 with fail
      rw [← hV]
      try rw [← hn11]
      clear hV hn11
      go_wp2_with fail
      refine (draw_reads ba la ca _ hla (HC.out.below HB.out)).mono ?_
      intro e w9 h
      obtain ⟨gP, gB, gA, gu, gn, ga0, gc0, ga1, gc1, ga2, gc2, l0, l1, rfl, hLEN, hR, hb⟩ := h
      have B5 := Lib.hid (B5.out.call hb)
      have B6 := Lib.hid (B6.out.call hb)
      have B7 := Lib.hid (B7.out.call hb)
      have B9 := Lib.hid (B9.out.call hb)
      have B10 := Lib.hid (B10.out.call hb)
      have B11 := Lib.hid (B11.out.call hb)
      have RD := Lib.hid (gmv R_Desk_ok RD.out hb)
      have RX := Lib.hid (gmv R_DeskStep_ok RX.out hb)
      have RXD := Lib.hid (gmv R_Desk_ok RXD.out hb)
      have RE := Lib.hid (gmv R_Desk_ok RE.out hb)
      have RY := Lib.hid (gmv R_DeskStep_ok RY.out hb)
      have RYD := Lib.hid (gmv R_Desk_ok RYD.out hb)
      have SDA := Lib.hid (gmvS SDA.out hb R_Letter_ok)
      have SXA := Lib.hid (gmvS SXA.out hb R_Letter_ok)
      have SEA := Lib.hid (gmvS SEA.out hb R_Letter_ok)
      have SYA := Lib.hid (gmvS SYA.out hb R_Letter_ok)
      have HB := Lib.hid (HB.out.trans (hb.mono HB.out.size))
      clear hb
      have RG := Lib.hid (hR.rd gu gn)
      clear hR hLEN
      obtain ⟨W10, hV⟩ : ∃ x, x = ((w9.alloc (.cells #[.slice ga0 gP.length gc0, .slice ga1 gB.length gc1, .slice ga2 gA.length gc2, .int .i64 gu, .int .i64 gn] 25)).alloc (.cells #[.int .i64 l0, .int .i64 l1] 27)) := ⟨_, rfl⟩
      have hb : Below w9.heap.size w9 W10 := by rw [hV]; exact (((Below.refl _ _).alloc (Nat.le_refl _) _).alloc (by simp) _)
      have hq12 : Blk W10 (w9.heap.size) 25 #[.slice ga0 gP.length gc0, .slice ga1 gB.length gc1, .slice ga2 gA.length gc2, .int .i64 gu, .int .i64 gn] := by
        have h9 := (Blk.new w9 25 #[.slice ga0 gP.length gc0, .slice ga1 gB.length gc1, .slice ga2 gA.length gc2, .int .i64 gu, .int .i64 gn]).alloc (.cells #[.int .i64 l0, .int .i64 l1] 27)
        rw [hV]; exact h9
      have hq13 : Blk W10 (w9.heap.size + 1) 27 #[.int .i64 l0, .int .i64 l1] := by
        have h9 := Blk.new (w9.alloc (.cells #[.slice ga0 gP.length gc0, .slice ga1 gB.length gc1, .slice ga2 gA.length gc2, .int .i64 gu, .int .i64 gn] 25)) 27 #[.int .i64 l0, .int .i64 l1]
        simp only [World.size_alloc] at h9
        rw [hV]; exact h9
      obtain ⟨b12, hn12⟩ : ∃ b, b = w9.heap.size := ⟨_, rfl⟩
      obtain ⟨b13, hn13⟩ : ∃ b, b = w9.heap.size + 1 := ⟨_, rfl⟩
      have B5 := Lib.hid (B5.out.call hb)
      have B6 := Lib.hid (B6.out.call hb)
      have B7 := Lib.hid (B7.out.call hb)
      have B9 := Lib.hid (B9.out.call hb)
      have B10 := Lib.hid (B10.out.call hb)
      have B11 := Lib.hid (B11.out.call hb)
      have RD := Lib.hid (gmv R_Desk_ok RD.out hb)
      have RX := Lib.hid (gmv R_DeskStep_ok RX.out hb)
      have RXD := Lib.hid (gmv R_Desk_ok RXD.out hb)
      have RE := Lib.hid (gmv R_Desk_ok RE.out hb)
      have RY := Lib.hid (gmv R_DeskStep_ok RY.out hb)
      have RYD := Lib.hid (gmv R_Desk_ok RYD.out hb)
      have RG := Lib.hid (gmv R_Desk_ok RG.out hb)
      have SDA := Lib.hid (gmvS SDA.out hb R_Letter_ok)
      have SXA := Lib.hid (gmvS SXA.out hb R_Letter_ok)
      have SEA := Lib.hid (gmvS SEA.out hb R_Letter_ok)
      have SYA := Lib.hid (gmvS SYA.out hb R_Letter_ok)
      have HB := Lib.hid (HB.out.trans (hb.mono HB.out.size))
      clear hb
      have B12 := Lib.hid (show Blk W10 b12 25 #[.slice ga0 gP.length gc0, .slice ga1 gB.length gc1, .slice ga2 gA.length gc2, .int .i64 gu, .int .i64 gn] from by rw [hn12]; exact hq12)
      have B13 := Lib.hid (show Blk W10 b13 27 #[.int .i64 l0, .int .i64 l1] from by rw [hn13]; exact hq13)
      clear hq12 hq13
      go_upto_region 8 with fail
      rw [← hV]
      try rw [← hn13, ← hn12]
      clear hV hn12 hn13
      have HCX := Lib.hid (show xz ≠ 0 ∨ boxB (xP, xB, xA, xu, xn) = true from by by_cases h9 : xz = 0; exact .inr (by subst h9; exact dn_let_right HLET.out); exact .inl h9)
      have HCY := Lib.hid (show yz ≠ 0 ∨ boxB (yP, yB, yA, yu, yn) = true from by by_cases h9 : yz = 0; exact .inr (by subst h9; exact dn_next_right HNEXT.out); exact .inl h9)
      go_cut [75] (fun s9 wx => s9 = .bool false ∧ Hid (Below W10.heap.size W10 wx))
      case first =>
        refine dreg8 B5 B6 B7 B9 B10 B11 B12 B13 RD RE RG RX RY HLET HNEXT SZD SZE HCX HCY ?_
        intro _ _ _ _ _ _ _ _ _ _ _ _ _ _ _ _ _ _ _ _ _ _ _ _ _ _ _ _ _ _ _ wx HBx
        go_wp2_with fail
        go_meet
        exact ⟨rfl, HBx⟩
      case rest =>
        obtain ⟨rfl, HF⟩ := hcut
        rename World => v
        have hb := HF.out
        clear HF
        have B5 := Lib.hid (B5.out.call hb)
        have B6 := Lib.hid (B6.out.call hb)
        have B7 := Lib.hid (B7.out.call hb)
        have B9 := Lib.hid (B9.out.call hb)
        have B10 := Lib.hid (B10.out.call hb)
        have B11 := Lib.hid (B11.out.call hb)
        have B12 := Lib.hid (B12.out.call hb)
        have B13 := Lib.hid (B13.out.call hb)
        have RD := Lib.hid (gmv R_Desk_ok RD.out hb)
        have RX := Lib.hid (gmv R_DeskStep_ok RX.out hb)
        have RXD := Lib.hid (gmv R_Desk_ok RXD.out hb)
        have RE := Lib.hid (gmv R_Desk_ok RE.out hb)
        have RY := Lib.hid (gmv R_DeskStep_ok RY.out hb)
        have RYD := Lib.hid (gmv R_Desk_ok RYD.out hb)
        have RG := Lib.hid (gmv R_Desk_ok RG.out hb)
        have SDA := Lib.hid (gmvS SDA.out hb R_Letter_ok)
        have SXA := Lib.hid (gmvS SXA.out hb R_Letter_ok)
        have SEA := Lib.hid (gmvS SEA.out hb R_Letter_ok)
        have SYA := Lib.hid (gmvS SYA.out hb R_Letter_ok)
        have HB := Lib.hid (HB.out.trans (hb.mono HB.out.size))
        clear hb
        go_upto_region 10 with fail
        go_cut [95] (fun s9 wx => s9 = .bool false ∧ Hid (Below v.heap.size v wx))
        case first =>
          have q10_0 := B10.out.at_ 0 rfl
          have q10_1 := B10.out.at_ 1 rfl
          have q10_2 := B10.out.at_ 2 rfl
          have q10_3 := B10.out.at_ 3 rfl
          have q10_4 := B10.out.at_ 4 rfl
          have q11_0 := B11.out.at_ 0 rfl
          have q11_1 := B11.out.at_ 1 rfl
          have q11_2 := B11.out.at_ 2 rfl
          have q11_3 := B11.out.at_ 3 rfl
          have q11_4 := B11.out.at_ 4 rfl
          have q11_5 := B11.out.at_ 5 rfl
          by_cases hy : yz = 0
          · subst hy
            obtain ⟨_, _, hD⟩ := dn_next_ok HNEXT.out
            simp only [Prod.mk.injEq] at hD
            obtain ⟨rfl, rfl, rfl, rfl, rfl⟩ := hD
            go_wp2_with fail
            refine (lwletters SYA.out SEA.out).mono ?_
            intro e v2 h
            obtain ⟨rfl, hb⟩ := isB_elim h
            clear h q10_0 q10_1 q10_2 q10_3 q10_4 q11_0 q11_1 q11_2 q11_3 q11_4 q11_5
            have B11 := Lib.hid (B11.out.call hb)
            have RYD := Lib.hid (gmv R_Desk_ok RYD.out hb)
            have HF := Lib.hid hb
            clear hb
            have q11_0 := B11.out.at_ 0 rfl
            have q11_1 := B11.out.at_ 1 rfl
            have q11_2 := B11.out.at_ 2 rfl
            have q11_3 := B11.out.at_ 3 rfl
            have q11_4 := B11.out.at_ 4 rfl
            have q11_5 := B11.out.at_ 5 rfl
            go_wp2_with fail
            refine (greads_impl RYD.out).mono ?_
            intro e v3 h
            rw [next_reads HNEXT.out] at h
            obtain ⟨ra, rc, rfl, ho, hb⟩ := newS_elim h
            have HF := Lib.hid (HF.out.trans (hb.mono HF.out.size))
            clear h ho hb
            go_wp2_with fail
            go_meet
            exact ⟨rfl, HF⟩
          · have hq1 : (yz == 0) = false := beq_eq_false_iff_ne.2 hy
            go_wp2_with fail
            go_meet
            exact ⟨rfl, Lib.hid (Below.refl _ _)⟩
        case rest =>
        obtain ⟨rfl, HF⟩ := hcut
        rename World => v2
        have hb := HF.out
        clear HF
        have B5 := Lib.hid (B5.out.call hb)
        have B6 := Lib.hid (B6.out.call hb)
        have B7 := Lib.hid (B7.out.call hb)
        have B9 := Lib.hid (B9.out.call hb)
        have B10 := Lib.hid (B10.out.call hb)
        have B11 := Lib.hid (B11.out.call hb)
        have B12 := Lib.hid (B12.out.call hb)
        have B13 := Lib.hid (B13.out.call hb)
        have RD := Lib.hid (gmv R_Desk_ok RD.out hb)
        have RX := Lib.hid (gmv R_DeskStep_ok RX.out hb)
        have RXD := Lib.hid (gmv R_Desk_ok RXD.out hb)
        have RE := Lib.hid (gmv R_Desk_ok RE.out hb)
        have RY := Lib.hid (gmv R_DeskStep_ok RY.out hb)
        have RYD := Lib.hid (gmv R_Desk_ok RYD.out hb)
        have RG := Lib.hid (gmv R_Desk_ok RG.out hb)
        have SDA := Lib.hid (gmvS SDA.out hb R_Letter_ok)
        have SXA := Lib.hid (gmvS SXA.out hb R_Letter_ok)
        have SEA := Lib.hid (gmvS SEA.out hb R_Letter_ok)
        have SYA := Lib.hid (gmvS SYA.out hb R_Letter_ok)
        have HB := Lib.hid (HB.out.trans (hb.mono HB.out.size))
        clear hb
        have q9_0 := B9.out.at_ 0 rfl
        have q9_1 := B9.out.at_ 1 rfl
        have q9_2 := B9.out.at_ 2 rfl
        have q9_3 := B9.out.at_ 3 rfl
        have q9_4 := B9.out.at_ 4 rfl
        have q9_5 := B9.out.at_ 5 rfl
        by_cases hx : xz = 0
        rotate_left
        · have hq1 : (xz != 0) = true := by simp [hx]
          have hq2 : (xz == 0) = false := by simp [hx]
          go_wp2
          go_ret
          exact ⟨rfl, HB.out⟩
        subst hx
        obtain ⟨M, hM9⟩ := let_reads HLET.out
        have HRM := Lib.hid hM9
        obtain ⟨hdr, _, _, hu2, _, _, hD⟩ := dn_let_ok HLET.out
        have hdu := (dn_isB.1 hdr.2.2.2.2.1).2
        simp only [Prod.mk.injEq] at hD
        obtain ⟨rfl, rfl, rfl, rfl, rfl⟩ := hD
        clear hM9 hdr
        obtain ⟨A9, hA9⟩ : ∃ A9, A9 = dA ++ [((f0, f1), (t0, t1), xn, z)] := ⟨_, rfl⟩
        have hl9 : A9.length = dA.length + 1 := by rw [hA9]; simp
        have HA9 := Lib.hid hA9
        have SP := Lib.hid (rdsl_front SXA.out)
        obtain ⟨Bz, hBz⟩ : ∃ Bz, Bz = dB ++ [((f0, f1), (t0, t1), xn, z)] := ⟨_, rfl⟩
        obtain ⟨uz, huz⟩ : ∃ uz, uz = du + 1 := ⟨_, rfl⟩
        have hu3 : uz ≤ 2 := by omega
        rw [← hA9] at SXA
        rw [← hA9, ← hBz, ← huz] at B9 RXD HRM
        clear HLET HNEXT HCX HCY hA9 hBz huz HA9 RX RY RE RG RD RYD SEA SYA B6 B10 B11 B12 B13
        obtain ⟨gx, ox, hxa, _, _⟩ := SXA.out.2.2 (by omega)
        subst hxa
        have hxc := SXA.out.1
        have hxm : (A9.length : Int) ≤ 9223372036854775807 := by have h1 := SXA.out.1; have h2 := SXA.out.2.1; unfold maxLen at h2; omega
        have HL9 := Lib.hid hl9
        clear SXA hl9
        clear q9_0 q9_1 q9_2 q9_3 q9_4 q9_5
        have q9_0 := B9.out.at_ 0 rfl
        have q9_1 := B9.out.at_ 1 rfl
        have q9_2 := B9.out.at_ 2 rfl
        have q9_3 := B9.out.at_ 3 rfl
        have q9_4 := B9.out.at_ 4 rfl
        have q9_5 := B9.out.at_ 5 rfl
        have q7_0 := B7.out.at_ 0 rfl
        have q7_1 := B7.out.at_ 1 rfl
        go_wp2_with fail
        refine (greads_impl RXD.out).mono ?_
        intro e v3 h
        rw [HRM.out] at h
        obtain ⟨ra, rc, he, ho, hb⟩ := newS_elim h
        have hkl : (M ++ [z]).length = M.length + 1 := by simp
        rw [hkl] at he
        subst he
        have hr := ho.rd I_ok fun k hk => hk.2
        obtain ⟨rg, ro, us, rfl, hrg, hu, hr'⟩ := hr.at_ (i := M.length) (x := z) (by simp)
        obtain rfl : us = [_] := hr'
        have HRE := Lib.hid (show v3.cell? ⟨rg, ro + M.length, none⟩ = some (.int .i64 z) from by simpa [show I.size = 1 from rfl] using hu 0 _ rfl)
        have hk : (M.length : Int) + 1 ≤ 9223372036854775807 := by have h1 := hr.1; have h2 := hr.2.1; rw [hkl] at h1; unfold maxLen at h2; omega
        have B5 := Lib.hid (B5.out.call hb)
        have B9 := Lib.hid (B9.out.call hb)
        have SP := Lib.hid (gmvS SP.out hb R_Letter_ok)
        have SDA := Lib.hid (gmvS SDA.out hb R_Letter_ok)
        have HB := Lib.hid (HB.out.trans (hb.mono HB.out.size))
        clear h ho hb hr hu hkl q9_0 q9_1 q9_2 q9_3 q9_4 q9_5 q7_0 q7_1
        go_upto_region 15 with fail
        go_cut [4] (fun s9 wx => s9 = .bool true ∧ Hid (Below v3.heap.size v3 wx))
        case first =>
          refine dreg15 B5 B9 HRE hrg hk HL9.out hxc hxm hu3 SP SDA ?_
          intro _ _ _ _ _ _ _ _ _ _ _ _ _ _ _ _ _ _ _ _ _ _ _ _ _ _ _ _ _ _ _ _ _ _ _ _ _ _ _ _ _ _ wx HBx
          go_wp2_with fail
          go_meet
          exact ⟨rfl, HBx⟩
        case rest =>
          obtain ⟨rfl, HF⟩ := hcut
          go_wp2
          go_ret
          exact ⟨rfl, HB.out.trans (HF.out.mono HB.out.size)⟩
    · have d1 : decide ((1048576 : Int) < (la : Int)) = false := decide_eq_false (by omega)
      have d2 : decide ((1048576 : Int) < (lm : Int)) = true := decide_eq_true (by omega)
      go_wp2
      go_ret
      exact ⟨rfl, Below.refl _ _⟩
  · have d1 : decide ((1048576 : Int) < (la : Int)) = true := decide_eq_true (by omega)
    go_wp2
    go_ret
    exact ⟨rfl, Below.refl _ _⟩
end Go.Proofs.YtphklknaagjmpaaDoor.DrawC
end
section
namespace Go.Proofs.YtphklknaagjmpaaDoor.DrawC
open Go.ChangeShapes Go.WideShapes Go.ChangeAt Go.RowKit
set_option maxRecDepth 1000000 in
theorem open_code {H : Type} {enc : TypeId × Value → H} {W : World} {base : Nat} {v : Value} {d : DataW H} {p : List MemPlace} (o : Value.okWide Tryd.prog W .any base 22 v) (h : DataW.Trod enc Tryd.prog W 0 (fun _ => true) true 22 v d p) :
    ∃ (a : Option Addr) (len cap : Nat), v = .slice a len cap ∧ CodeIn W a len := by
  obtain ⟨a0, len0, cap0, rfl⟩ := okWide_slice Tryd.underlying22 o
  obtain ⟨fuel, hf⟩ := h
  rcases open_ints Tryd.underlying22 Tryd.underlying5 (by kernel_rfl) hf with ⟨hcs, _⟩ | ⟨x, l, c, zs, hcs, _, hl, hm, hz, _, hcell, hwz⟩
  · simp [Value.cells] at hcs
    obtain ⟨rfl, rfl, rfl⟩ := hcs
    exact ⟨none, 0, 0, rfl, (CodeIn.of_row (zs := []) (.inl ⟨rfl, rfl, rfl, rfl⟩)).1⟩
  · simp [Value.cells] at hcs
    obtain ⟨rfl, rfl, rfl⟩ := hcs
    exact ⟨_, _, _, rfl, (CodeIn.of_row (zs := zs) (.inr ⟨_, rfl, hl, hm, by simpa using hz, hcell, hwz⟩)).1⟩
end Go.Proofs.YtphklknaagjmpaaDoor.DrawC
end
