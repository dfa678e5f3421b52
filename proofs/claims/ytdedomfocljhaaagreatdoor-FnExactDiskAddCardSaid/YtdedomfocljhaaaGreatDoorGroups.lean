/- readGroups: a state machine with three labels: its contract. -/
import Derived.Test.YtdedomfocljhaaaGreatDoorGet
namespace Go.Proofs.YtdedomfocljhaaaGreatDoor.GetC
open Go.RowKit GetM AsC

/-- As Q; by a goto to label l: J l. -/
def jumps (J : Nat → Act → World → Prop) (Q : Exit → Act → World → Prop) : Exit → Act → World → Prop
  | .goto l, a, w => J l a w
  | e, a, w => Q e a w

theorem jumps_ret {J : Nat → Act → World → Prop} {Q : Exit → Act → World → Prop} {a : Act} {w : World} : jumps J Q .ret a w = Q .ret a w := rfl
section
variable {P : Program} {a : Act} {w : World} {Q : Exit → Act → World → Prop}

/-- A scope with several labels: what holds at each jump, and a measure that every pass from a label lowers. -/
theorem wp_scope_all {c : Code} (J : Nat → Act → World → Prop) (μ : Nat → Act → World → Nat)
    (pass : ∀ l a w, J l a w → ∃ rest, findLabel c l = some (.seq .skip rest) ∧ rest.wp P (jumps (fun l' a' w' => J l' a' w' ∧ μ l' a' w' < μ l a w) Q) a w)
    (first : (∀ l a w, J l a w → ∃ rest, findLabel c l = some (.seq .skip rest) ∧ rest.wp P (jumps J Q) a w) → c.wp P (jumps J Q) a w) : (Code.scope c).wp P Q a w := by
  have first : c.wp P (jumps J Q) a w := first fun l a w h => by
    obtain ⟨rest, hf, hp⟩ := pass l a w h
    refine ⟨rest, hf, wp_mono hp fun e a' w' hq => ?_⟩
    cases e <;> first | exact hq | exact hq.1
  have pass : ∀ l a w, J l a w → ∃ rest, findLabel c l = some rest ∧ rest.wp P (jumps (fun l' a' w' => J l' a' w' ∧ μ l' a' w' < μ l a w) Q) a w := fun l a w h => by
    obtain ⟨rest, hf, hp⟩ := pass l a w h
    exact ⟨_, hf, wp_seq (wp_skip hp)⟩
  intro b k cs
  have key : ∀ n l a w, μ l a w = n → J l a w → ∀ rest, findLabel c l = some rest → ∃ e a' w', Q e a' w' ∧ Arrives P (lone (b.at a (.code rest :: .inScope c :: k)) cs w) b k cs e a' w' := by
    intro n
    induction n using Nat.strongRecOn with
    | _ n ih =>
      intro l a w hn hJ rest hf
      obtain ⟨rest', hf', hp⟩ := pass l a w hJ
      obtain rfl : rest = rest' := Option.some.inj (hf.symm.trans hf')
      obtain ⟨e, a₁, w₁, hq, harr⟩ := hp b (.inScope c :: k) cs
      cases e with
      | normal => exact ⟨.normal, a₁, w₁, hq, Steps.trans harr (.one step_inScope)⟩
      | exit id => exact ⟨.exit id, a₁, w₁, hq, fun k' hk => harr k' (by simp [exitTo, hk])⟩
      | goto l' =>
        obtain ⟨hJ', hlt⟩ := hq
        obtain ⟨rest2, hf2, _⟩ := pass l' a₁ w₁ hJ'
        obtain ⟨e₂, a₂, w₂, hq₂, harr₂⟩ := ih _ (by omega) l' a₁ w₁ rfl hJ' rest2 hf2
        exact ⟨e₂, a₂, w₂, hq₂, .of_steps (harr _ (by simp [gotoIn, hf2])) harr₂⟩
      | ret => exact ⟨_, a₁, w₁, hq, harr⟩
      | panic ch => exact ⟨_, a₁, w₁, hq, harr⟩
      | outgrown => exact ⟨_, a₁, w₁, hq, harr⟩
  obtain ⟨e, a₁, w₁, hq, harr⟩ := first b (.inScope c :: k) cs
  cases e with
  | normal => exact ⟨.normal, a₁, w₁, hq, .head step_scope (Steps.trans harr (.one step_inScope))⟩
  | exit id => exact ⟨.exit id, a₁, w₁, hq, fun k' hk => .head step_scope (harr k' (by simp [exitTo, hk]))⟩
  | goto l' =>
    obtain ⟨rest2, hf2, _⟩ := pass l' a₁ w₁ hq
    obtain ⟨e₂, a₂, w₂, hq₂, harr₂⟩ := key _ l' a₁ w₁ rfl hq rest2 hf2
    exact ⟨e₂, a₂, w₂, hq₂, .of_steps (.head step_scope (harr _ (by simp [gotoIn, hf2]))) harr₂⟩
  | ret => exact ⟨_, a₁, w₁, hq, .of_steps (.one step_scope) harr⟩
  | panic ch => exact ⟨_, a₁, w₁, hq, .of_steps (.one step_scope) harr⟩
  | outgrown => exact ⟨_, a₁, w₁, hq, .of_steps (.one step_scope) harr⟩
end

def errV (c : Int) : Value := .iface 114 (.agg #[.int .i64 c])
def grpV (s : ByteArray) (a : Nat) : Value :=
  if (gotOf s a).code = 0 then .tuple #[.int .u64 (gotOf s a).u, .int .i64 ((a : Int) + (gotOf s a).used), .nilIface]
  else .tuple #[.int .u64 0, .int .i64 0, errV (gotOf s a).code]
theorem grpV_ok {s : ByteArray} {a y n : Nat} (h : gotOf s a = ⟨0, y, n⟩) : grpV s a = .tuple #[.int .u64 y, .int .i64 ((a : Int) + n), .nilIface] := by
  unfold grpV; rw [h]; simp
theorem grpV_bad {s : ByteArray} {a : Nat} {c : Int} (hc : c ≠ 0) (h : gotOf s a = ⟨c, 0, 0⟩) : grpV s a = .tuple #[.int .u64 0, .int .i64 0, errV c] := by
  unfold grpV; rw [h]; simp [hc]

/-- at 'more' -/
def JMore (s : ByteArray) (a : Nat) (a' : Act) : Prop :=
  ∃ (k x : Nat) (p q : Int), p = (a : Int) + k ∧ q = 7 * (k : Int) ∧ k ≤ 9 ∧ x < 2 ^ (7 * k) ∧ dec (s.data.toList.drop (a + k)) k x = gotOf s a ∧ ∃ u8 u11 u12 u13 u14 u15 u16 u17 u18 u19 u20 u21 u22 u23 u24 u25 u26 u27 u28 u29 u30 u31 u32 u33 u34 u35 u36 u37 u38 u39 u40 u41 u42 u43 u44 u45 u46 u47 : Value, a' = { tmps := #[.string s, .int .i64 p, undef, undef, .int .u64 0, .int .i64 0, .nilIface, .int .u64 x, u8, .int .i64 q, .int .i64 3, u11, u12, u13, u14, u15, u16, u17, u18, u19, u20, u21, u22, u23, u24, u25, u26, u27, u28, u29, u30, u31, u32, u33, u34, u35, u36, u37, u38, u39, u40, u41, u42, u43, u44, u45, u46, u47], defers := [] }
/-- at 'last' -/
def JLast (s : ByteArray) (a : Nat) (a' : Act) : Prop :=
  ∃ k y b : Nat, k ≤ 9 ∧ b < 128 ∧ y < 18446744073709551616 ∧ gotOf s a = (if b = 0 ∧ 0 < k then ⟨3, 0, 0⟩ else ⟨0, y, k + 1⟩) ∧ ∃ u11 u12 u13 u14 u15 u16 u17 u18 u19 u20 u21 u22 u23 u24 u25 u26 u27 u28 u29 u30 u31 u32 u33 u34 u35 u36 u37 u38 u39 u40 u41 u42 u43 u44 u45 u46 u47 : Value, a' = { tmps := #[.string s, .int .i64 ((a : Int) + k + 1), undef, undef, .int .u64 0, .int .i64 0, .nilIface, .int .u64 y, .int .u8 b, .int .i64 (7 * (k : Int)), .int .i64 3, u11, u12, u13, u14, u15, u16, u17, u18, u19, u20, u21, u22, u23, u24, u25, u26, u27, u28, u29, u30, u31, u32, u33, u34, u35, u36, u37, u38, u39, u40, u41, u42, u43, u44, u45, u46, u47], defers := [] }
/-- at 'wrong' -/
def JWrong (s : ByteArray) (a : Nat) (a' : Act) : Prop :=
  ∃ c : Int, c ≠ 0 ∧ gotOf s a = ⟨c, 0, 0⟩ ∧ ∃ u1 u7 u8 u9 u11 u12 u13 u14 u15 u16 u17 u18 u19 u20 u21 u22 u23 u24 u25 u26 u27 u28 u29 u30 u31 u32 u33 u34 u35 u36 u37 u38 u39 u40 u41 u42 u43 u44 u45 u46 u47 : Value, a' = { tmps := #[.string s, u1, undef, undef, .int .u64 0, .int .i64 0, .nilIface, u7, u8, u9, .int .i64 c, u11, u12, u13, u14, u15, u16, u17, u18, u19, u20, u21, u22, u23, u24, u25, u26, u27, u28, u29, u30, u31, u32, u33, u34, u35, u36, u37, u38, u39, u40, u41, u42, u43, u44, u45, u46, u47], defers := [] }
def JAll (s : ByteArray) (a : Nat) (w : World) (l : Nat) (a' : Act) (w' : World) : Prop := w' = w ∧ ((l = 1 ∧ JMore s a a') ∨ (l = 2 ∧ JLast s a a') ∨ (l = 0 ∧ JWrong s a a'))
def muAll (l : Nat) (a' : Act) (_ : World) : Nat := if l = 1 then 200 - (intOf (a'.tmps.getD 9 undef)).toNat else l

/-- the group, as the program computes it -/
theorem or_form {k x b : Nat} (hk : k ≤ 9) (hx : x < 2 ^ (7 * k)) (hb : b < 256) (h9 : k = 9 → b % 128 ≤ 1) :
    bits .or .u64 (x : Int) (IntKind.u64.wrap (IntKind.u64.wrap (bits .and .u8 (b : Int) 127) * 2 ^ (7 * k))) = ((x + b % 128 * 2 ^ (7 * k) : Nat) : Int) := by
  have h0 : ∀ a : Fin 256, bits .and .u8 ((a.val : Nat) : Int) 127 = ((a.val % 128 : Nat) : Int) := by decide +kernel
  have h1 := shl_64 (i := k) (x := b % 128) (Nat.mod_lt _ (by omega)) hk h9
  have h2 := pow_le hk
  have e := h0 ⟨b, hb⟩
  simp only at e
  rw [e, wrap_u64_in (x := ((b % 128 : Nat) : Int)) (by omega) (by omega)]
  have e2 : ((b % 128 : Nat) : Int) * 2 ^ (7 * k) = ((b % 128 * 2 ^ (7 * k) : Nat) : Int) := by simp
  rw [e2, wrap_u64_in (by omega) (by omega), bits_or_u64_nat _ _ (by omega) (by omega), or_add hx]

set_option maxRecDepth 100000 in
set_option maxHeartbeats 1000000 in
theorem groups_any (s : ByteArray) (a : Nat) (w : World) (hs : s.size ≤ 8000) (ha : a ≤ 9223372036854775807) :
    Calls Tryz.prog 80 #[.string s, .int .i64 a] w fun e w' => e = .returned (grpV s a) ∧ w = w' := by
  go_enter Tryz.func80, Tryz.ntmps80
  go_wp2
  refine wp_scope_all (JAll s a w) muAll ?_ ?_
  · rintro l a' w1 ⟨rfl, (⟨rfl, k, x, _, _, rfl, rfl, hk, hx, hd, u8, u11, u12, u13, u14, u15, u16, u17, u18, u19, u20, u21, u22, u23, u24, u25, u26, u27, u28, u29, u30, u31, u32, u33, u34, u35, u36, u37, u38, u39, u40, u41, u42, u43, u44, u45, u46, u47, rfl⟩ | ⟨rfl, k, y, b, hk, hb, hy, hd, u11, u12, u13, u14, u15, u16, u17, u18, u19, u20, u21, u22, u23, u24, u25, u26, u27, u28, u29, u30, u31, u32, u33, u34, u35, u36, u37, u38, u39, u40, u41, u42, u43, u44, u45, u46, u47, rfl⟩ | ⟨rfl, c, hc, hd, u1, u7, u8, u9, u11, u12, u13, u14, u15, u16, u17, u18, u19, u20, u21, u22, u23, u24, u25, u26, u27, u28, u29, u30, u31, u32, u33, u34, u35, u36, u37, u38, u39, u40, u41, u42, u43, u44, u45, u46, u47, rfl⟩)⟩
    · refine ⟨_, rfl, ?_⟩
      by_cases hlt : a + k < s.size
      · rw [drop_cons s (a + k) hlt] at hd
        have hb1 : 0 ≤ (s[a + k].toNat : Int) := by omega
        have hb2 : (s[a + k].toNat : Int) < 256 := by have := s[a + k].toNat_lt; omega
        by_cases h9n : k = 9 ∧ 1 < s[a + k].toNat
        · have HD : Hid (gotOf s a = ⟨3, 0, 0⟩) := Lib.hid (by obtain ⟨rfl, h⟩ := h9n; rw [dec_big h] at hd; exact hd.symm)
          have h63 : (7 * (k : Int) == 63) = true := by simp; omega
          have hg : 1 < (s[a + k].toNat : Int) := by omega
          clear hd h9n
          go_wp2
          apply wp_goto
          show JAll s a w1 0 _ _ ∧ _ < _
          exact ⟨⟨rfl, .inr (.inr ⟨rfl, 3, by omega, HD.out, _, _, _, _, _, _, _, _, _, _, _, _, _, _, _, _, _, _, _, _, _, _, _, _, _, _, _, _, _, _, _, _, _, _, _, _, _, _, _, _, _, rfl⟩)⟩, by simp [muAll, intOf]; omega⟩
        · have h9 : k = 9 → s[a + k].toNat % 128 ≤ 1 := fun e => by omega
          have hy := or_form (b := s[a + k].toNat) hk hx (by omega) h9
          have hy2 := group_64 hx (Nat.mod_lt s[a + k].toNat (by omega : 0 < 128)) hk h9
          by_cases h1 : s[a + k].toNat < 128
          · have HD : Hid (gotOf s a = (if s[a + k].toNat = 0 ∧ 0 < k then ⟨3, 0, 0⟩ else ⟨0, x + s[a + k].toNat % 128 * 2 ^ (7 * k), k + 1⟩)) := Lib.hid (by
              rw [← hd]
              by_cases h0 : s[a + k].toNat = 0 ∧ 0 < k
              · rw [if_pos h0, dec_zero h0.1 h0.2]
              · rw [if_neg h0, dec_last h9n h1 h0])
            have hn : (s[a + k].toNat : Int) < 128 := by omega
            clear hd
            generalize x + s[a + k].toNat % 128 * 2 ^ (7 * k) = y at *
            by_cases hk9 : k = 9
            · have h63 : (7 * (k : Int) == 63) = true := by simp; omega
              have hle : ¬ 1 < (s[a + k].toNat : Int) := by omega
              have HK := Lib.hid hk9
              clear h9 h9n hk9
              go_wp2
              apply wp_goto
              show JAll s a w1 2 _ _ ∧ _ < _
              exact ⟨⟨rfl, .inr (.inl ⟨rfl, k, y, s[a + k].toNat, by omega, h1, hy2, HD.out, _, _, _, _, _, _, _, _, _, _, _, _, _, _, _, _, _, _, _, _, _, _, _, _, _, _, _, _, _, _, _, _, _, _, _, _, _, rfl⟩)⟩, by simp [muAll, intOf]; omega⟩
            · have h63 : (7 * (k : Int) == 63) = false := by simp; omega
              clear h9 h9n
              go_wp2
              apply wp_goto
              show JAll s a w1 2 _ _ ∧ _ < _
              exact ⟨⟨rfl, .inr (.inl ⟨rfl, k, y, s[a + k].toNat, by omega, h1, hy2, HD.out, _, _, _, _, _, _, _, _, _, _, _, _, _, _, _, _, _, _, _, _, _, _, _, _, _, _, _, _, _, _, _, _, _, _, _, _, _, rfl⟩)⟩, by simp [muAll, intOf]; omega⟩
          · rw [dec_more h9n h1] at hd
            have HD := Lib.hid hd
            have hx2 := group_lt hx (Nat.mod_lt s[a + k].toNat (by omega : 0 < 128))
            have hn : ¬ (s[a + k].toNat : Int) < 128 := by omega
            have h63 : (7 * (k : Int) == 63) = false := by simp; omega
            clear hd
            generalize x + s[a + k].toNat % 128 * 2 ^ (7 * k) = y at *
            have hk8 : k ≤ 8 := by omega
            clear h9 h9n
            go_wp2
            apply wp_goto
            show JAll s a w1 1 _ _ ∧ _ < _
            exact ⟨⟨rfl, .inl ⟨rfl, k + 1, y, _, _, by omega, by omega, by omega, hx2, HD.out, _, _, _, _, _, _, _, _, _, _, _, _, _, _, _, _, _, _, _, _, _, _, _, _, _, _, _, _, _, _, _, _, _, _, _, _, _, _, rfl⟩⟩, by simp [muAll, intOf]; omega⟩
      · rw [drop_end s (a + k) hlt, dec_nil] at hd
        have HD := Lib.hid hd.symm
        clear hd
        go_wp2
        apply wp_goto
        show JAll s a w1 0 _ _ ∧ _ < _
        exact ⟨⟨rfl, .inr (.inr ⟨rfl, 4, by omega, HD.out, _, _, _, _, _, _, _, _, _, _, _, _, _, _, _, _, _, _, _, _, _, _, _, _, _, _, _, _, _, _, _, _, _, _, _, _, _, _, _, _, _, rfl⟩)⟩, by simp [muAll, intOf]; omega⟩
    · refine ⟨_, rfl, ?_⟩
      by_cases h0 : b = 0 ∧ 0 < k
      · rw [if_pos h0] at hd
        have HD := Lib.hid hd
        have hbz : ((b : Int) == 0) = true := by simp; omega
        have hk0 : 0 < 7 * (k : Int) := by omega
        clear hd h0
        go_wp2
        apply wp_goto
        show JAll s a w1 0 _ _ ∧ _ < _
        exact ⟨⟨rfl, .inr (.inr ⟨rfl, 3, by omega, HD.out, _, _, _, _, _, _, _, _, _, _, _, _, _, _, _, _, _, _, _, _, _, _, _, _, _, _, _, _, _, _, _, _, _, _, _, _, _, _, _, _, _, rfl⟩)⟩, by simp [muAll]⟩
      · rw [if_neg h0] at hd
        have HD := Lib.hid (grpV_ok hd)
        clear hd
        by_cases hb0 : b = 0
        · have hbz : ((b : Int) == 0) = true := by simp; omega
          have hk0 : ¬ 0 < 7 * (k : Int) := by omega
          clear h0 hb0
          go_wp2
          rw [jumps_ret]
          go_ret3
          exact ⟨ret_v HD.out.symm, rfl⟩
        · have hbz : ((b : Int) == 0) = false := by simp; omega
          clear h0
          go_wp2
          rw [jumps_ret]
          go_ret3
          exact ⟨ret_v HD.out.symm, rfl⟩
    · refine ⟨_, rfl, ?_⟩
      have HD := Lib.hid (grpV_bad hc hd)
      clear hd
      go_wp2
      rw [jumps_ret]
      go_ret3
      exact ⟨ret_v HD.out.symm, rfl⟩
  · intro hpass
    go_wp2
    apply wp_label
    show Exit.then _ _ Exit.normal _ _
    obtain ⟨rest, hf, hp⟩ := hpass 1 _ w ⟨rfl, .inl ⟨rfl, 0, 0, (a : Int), 0, by omega, by omega, by omega, by simp, rfl, _, _, _, _, _, _, _, _, _, _, _, _, _, _, _, _, _, _, _, _, _, _, _, _, _, _, _, _, _, _, _, _, _, _, _, _, _, _, rfl⟩⟩
    have he := (Code.seq.inj (Option.some.inj hf)).2
    subst he
    rename_i hk
    exact hk _ _ hp
end Go.Proofs.YtdedomfocljhaaaGreatDoor.GetC
