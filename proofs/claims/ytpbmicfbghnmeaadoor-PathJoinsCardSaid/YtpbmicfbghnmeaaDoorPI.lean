/- Layer 3: numbers behind paths: path.Numbered and the document's; the laws PathJoins, PathNumbers. -/
import Derived.Test.YtpbmicfbghnmeaaDoorPH
import Derived.Test.YtpbmicfbghnmeaaDoorItoa
namespace Go.Proofs.YtpbmicfbghnmeaaDoor
set_option linter.unusedSimpArgs false
set_option linter.unusedVariables false
open Go Go.Av Go.Lib
attribute [local simp] Tryd.T1 Tryd.T2 Tryd.T3 Tryd.T4 Tryd.T5 Tryd.T9 Tryd.T12 Tryd.T21 Tryd.T22 Tryd.T23 Tryd.T25 Tryd.T26 Tryd.T27 Tryd.T28 Tryd.T29 Tryd.T30 Tryd.T32 Tryd.T33 Tryd.T34 Tryd.T35 Tryd.T36 Tryd.T37 Tryd.T38 Tryd.T39 Tryd.T40 Tryd.T41 Tryd.T42 Tryd.T43 Tryd.T44 Tryd.T45 Tryd.T47 Tryd.T51 Tryd.T55 Tryd.T56 Tryd.T57 Tryd.T58 Tryd.T60 Tryd.T61 Tryd.T62 Tryd.T63 Tryd.T65 Tryd.T67 Tryd.T68 Tryd.T69 Tryd.T70 Tryd.T72 Tryd.T74 Tryd.T75 Tryd.T76 Tryd.T77 Tryd.T79 Tryd.T80 Tryd.T81 Tryd.T82 Tryd.T83 Tryd.T91
attribute [local irreducible] Go.Av.CallK Go.Av.CallE Go.Av.CallQ Go.Av.CallF Go.Av.Con

/-! ### Digits -/
/-- The last w digits of n. -/
def pw : Nat → Nat → List UInt8
  | 0, _ => []
  | w + 1, n => pw w (n / 10) ++ [UInt8.ofNat (48 + n % 10)]
theorem pw_len : ∀ (w n : Nat), (pw w n).length = w
  | 0, _ => rfl
  | w + 1, n => by rw [pw, List.length_append, pw_len w]; rfl
theorem pw_front : ∀ (w n : Nat), pw (w + 1) n = UInt8.ofNat (48 + n / 10 ^ w % 10) :: pw w n
  | 0, n => by simp [pw]
  | w + 1, n => by
    rw [pw, pw_front w (n / 10)]
    have e : n / 10 / 10 ^ w = n / 10 ^ (w + 1) := by rw [Nat.div_div_eq_div_mul, Nat.pow_succ, Nat.mul_comm]
    rw [e, List.cons_append]; rfl
theorem pw_mod : ∀ (w n : Nat), pw w (n % 10 ^ w) = pw w n
  | 0, _ => rfl
  | w + 1, n => by
    have e1 : n % 10 ^ (w + 1) / 10 = n / 10 % 10 ^ w := by
      rw [Nat.pow_succ, Nat.mul_comm, Nat.mod_mul_right_div_self]
    have e2 : n % 10 ^ (w + 1) % 10 = n % 10 := Nat.mod_mod_of_dvd n ⟨10 ^ w, by rw [Nat.pow_succ, Nat.mul_comm]⟩
    rw [pw, pw, e1, e2, pw_mod w]
theorem dec_pw : ∀ (w n : Nat), n < 10 ^ (w + 1) → (decDigits n).length ≤ w + 1 ∧ 1 ≤ (decDigits n).length ∧ List.replicate (w + 1 - (decDigits n).length) 48 ++ decDigits n = pw (w + 1) n
  | w, n, h => by
    by_cases h10 : n < 10
    · have e : decDigits n = [UInt8.ofNat (48 + n)] := by rw [decDigits, dif_pos h10]
      rw [e]
      have z : ∀ w, pw w 0 = List.replicate w 48 := by
        intro w
        induction w with
        | zero => rfl
        | succ w ih => rw [pw, show (0 : Nat) / 10 = 0 from rfl, ih, List.replicate_succ']; rfl
      refine ⟨by simp, by simp, ?_⟩
      rw [pw, show n / 10 = 0 by omega, z, show n % 10 = n by omega]; rfl
    · have e : decDigits n = decDigits (n / 10) ++ [UInt8.ofNat (48 + n % 10)] := by rw [decDigits, dif_neg h10]
      cases w with
      | zero => simp at h; omega
      | succ w =>
        obtain ⟨a, b, c⟩ := dec_pw w (n / 10) (by rw [Nat.pow_succ] at h; omega)
        rw [e]
        refine ⟨by simp; omega, by simp, ?_⟩
        rw [pw, ← c, List.length_append, ← List.append_assoc]
        congr 3
        simp only [List.length_cons, List.length_nil]
        omega
theorem itoa_pw {n : Int} (h0 : ¬ n < 0) (h1 : ¬ 9999999999 < n) : 1 ≤ (itoa n).length ∧ (itoa n).length ≤ 10 ∧ List.replicate (10 - (itoa n).length) 48 ++ itoa n = pw 10 n.toNat := by
  have e : itoa n = decDigits n.toNat := by unfold itoa; rw [if_neg h0]
  rw [e]
  obtain ⟨a, b, c⟩ := dec_pw 9 n.toNat (by simp; omega)
  exact ⟨b, a, c⟩
theorem u8_lt {a b : Nat} (ha : a < 10) (hb : b < 10) : UInt8.ofNat (48 + a) < UInt8.ofNat (48 + b) ↔ a < b := by
  rw [UInt8.lt_iff_toNat_lt, UInt8.toNat_ofNat', UInt8.toNat_ofNat']
  omega
theorem u8_eq {a b : Nat} (ha : a < 10) (hb : b < 10) : UInt8.ofNat (48 + a) = UInt8.ofNat (48 + b) ↔ a = b := by
  rw [← UInt8.toNat_inj, UInt8.toNat_ofNat', UInt8.toNat_ofNat']
  omega
theorem pw_split {w n : Nat} (h : n < 10 ^ (w + 1)) : ∃ d r, d < 10 ∧ r < 10 ^ w ∧ n = d * 10 ^ w + r ∧ pw (w + 1) n = UInt8.ofNat (48 + d) :: pw w r := by
  have hp : 0 < 10 ^ w := Nat.pow_pos (by omega)
  have hd : n / 10 ^ w < 10 := by rw [Nat.div_lt_iff_lt_mul hp, Nat.mul_comm]; rw [Nat.pow_succ] at h; exact h
  refine ⟨n / 10 ^ w, n % 10 ^ w, hd, Nat.mod_lt _ hp, (Nat.div_add_mod' n (10 ^ w)).symm, ?_⟩
  rw [pw_front, pw_mod, Nat.mod_eq_of_lt hd]
theorem pw_lt : ∀ (w n m : Nat), n < 10 ^ w → m < 10 ^ w → (pw w n < pw w m ↔ n < m) ∧ (pw w n = pw w m ↔ n = m)
  | 0, n, m, hn, hm => by
    simp at hn hm
    subst hn; subst hm
    simp [pw]
  | w + 1, n, m, hn, hm => by
    obtain ⟨d, r, hd, hr, en, e1⟩ := pw_split hn
    obtain ⟨d', r', hd', hr', em, e2⟩ := pw_split hm
    obtain ⟨i1, i2⟩ := pw_lt w r r' hr hr'
    rw [e1, e2, List.cons_lt_cons_iff, List.cons.injEq, u8_lt hd hd', u8_eq hd hd', i1, i2]
    generalize 10 ^ w = P at *
    have hdd : d < d' → d * P + P ≤ d' * P := fun h => by
      have := Nat.mul_le_mul_right P h
      rw [Nat.succ_mul] at this; exact this
    have hdd' : d' < d → d' * P + P ≤ d * P := fun h => by
      have := Nat.mul_le_mul_right P h
      rw [Nat.succ_mul] at this; exact this
    rcases Nat.lt_trichotomy d d' with h | h | h
    · have := hdd h
      constructor
      · constructor
        · intro _; omega
        · intro _; exact .inl h
      · constructor
        · rintro ⟨h1, _⟩; omega
        · intro _; omega
    · subst h
      constructor
      · constructor
        · rintro (h1 | ⟨_, h1⟩) <;> omega
        · intro _; right; exact ⟨rfl, by omega⟩
      · constructor
        · rintro ⟨_, h1⟩; omega
        · intro _; exact ⟨rfl, by omega⟩
    · have := hdd' h
      constructor
      · constructor
        · rintro (h1 | ⟨h1, _⟩) <;> omega
        · intro _; omega
      · constructor
        · rintro ⟨h1, _⟩; omega
        · intro _; omega
def nbr (p : List UInt8) (n : Int) : List UInt8 := p ++ pw 10 n.toNat
/-- A path with a number behind it, and how the call ends. -/
def nmb (p : List UInt8) (n : Int) : List UInt8 × Int := if 64 < p.length then ([], 5) else if n < 0 ∨ 9999999999 < n then ([], 1) else if chk (nbr p n) = 0 then (nbr p n, 0) else ([], chk (nbr p n))
/-! ### The program's -/
theorem rep_con : ∀ c : Nat, c ≤ 9 → ACon Tryd.prog 33 [.p (SB [48]), .p (I c)] (.p (SB (List.replicate c 48)))
  | 0, _ => xCall_sound Tryd.tab Tryd.mixed xbase_ok 40 _ _ _ _ (by kernel_rfl)
  | 1, _ => xCall_sound Tryd.tab Tryd.mixed xbase_ok 40 _ _ _ _ (by kernel_rfl)
  | 2, _ => xCall_sound Tryd.tab Tryd.mixed xbase_ok 40 _ _ _ _ (by kernel_rfl)
  | 3, _ => xCall_sound Tryd.tab Tryd.mixed xbase_ok 40 _ _ _ _ (by kernel_rfl)
  | 4, _ => xCall_sound Tryd.tab Tryd.mixed xbase_ok 40 _ _ _ _ (by kernel_rfl)
  | 5, _ => xCall_sound Tryd.tab Tryd.mixed xbase_ok 40 _ _ _ _ (by kernel_rfl)
  | 6, _ => xCall_sound Tryd.tab Tryd.mixed xbase_ok 40 _ _ _ _ (by kernel_rfl)
  | 7, _ => xCall_sound Tryd.tab Tryd.mixed xbase_ok 40 _ _ _ _ (by kernel_rfl)
  | 8, _ => xCall_sound Tryd.tab Tryd.mixed xbase_ok 40 _ _ _ _ (by kernel_rfl)
  | 9, _ => xCall_sound Tryd.tab Tryd.mixed xbase_ok 40 _ _ _ _ (by kernel_rfl)
  | _ + 10, h => absurd h (by omega)
theorem numbered_con (p : List UInt8) (n : Int) (hp : p.length ≤ 9223372036854775807) : ACon Tryd.prog 20 [.p (SB p), .p (I n)] (.tup [.p (SB (nmb p n).1), .p (I (nmb p n).2)]) := by
  unfold nmb
  by_cases h1 : 64 < p.length
  · have h1' : (64 : Int) < p.length := by omega
    rw [if_pos h1]
    refine wBody Tryd.tab Tryd.mixed Tryd.func20 rfl rfl Tryd.ntmps20 (by simp) (by simp) fun Q hr hn => ?_
    repeat' first | (refine hK _ ?_; clear hK) | (refine hK _ _ ?_; clear hK) | (clear hK; refine hK _ ?_; clear hK) | (clear hK; clear hK; refine hK _ ?_; clear hK) | (clear hK; clear hK; clear hK; refine hK _ ?_; clear hK) | (clear hK; clear hK; clear hK; clear hK; refine hK _ ?_; clear hK) | (refine wSeq fun K hK => ?_) | (refine wReg ?_; simp only [List.map_cons, List.map_nil, strip]) | (refine wDrwQ rfl (by kernel_rfl) ?_; simp only [List.map_cons, List.map_nil, strip]) | (refine wDrwI ?_; simp only [List.map_cons, List.map_nil, strip]) | (refine wDrw (by kernel_rfl) ?_; simp only [List.map_cons, List.map_nil, strip]) | (refine wIs fun K hK => ?_; simp [h1, h1']) | (refine wIn ?_; refine And.intro (by kernel_rfl) ?_; try simp only [thenA_n]) | (refine wOs fun K hK => ?_; simp [h1, h1']) | (refine wQs fun K hK => ?_; simp [h1, h1']) | (refine CallK_plain ?_; simp [h1, h1']) | (refine CallQ_plain ?_; simp [h1, h1']) | (refine wRet ?_; try simp) | (refine wCond ?_; simp [h1, h1']) | (refine wBlock ?_) | (refine wScope ?_) | (refine wLabel ?_; try simp only [thenA_n]) | (refine wExit ?_; try simp) | (refine wSkip ?_; try simp) | (refine wOn ?_; try simp only [thenA_n]) | (refine wQn ?_; try simp only [thenA_n])
    all_goals apply hr
    all_goals simp [Tryd.f20]
  have h1' : ¬ (64 : Int) < p.length := by omega
  rw [if_neg h1]
  by_cases h2 : n < 0
  · rw [if_pos (.inl h2)]
    refine wBody Tryd.tab Tryd.mixed Tryd.func20 rfl rfl Tryd.ntmps20 (by simp) (by simp) fun Q hr hn => ?_
    repeat' first | (refine hK _ ?_; clear hK) | (refine hK _ _ ?_; clear hK) | (clear hK; refine hK _ ?_; clear hK) | (clear hK; clear hK; refine hK _ ?_; clear hK) | (clear hK; clear hK; clear hK; refine hK _ ?_; clear hK) | (clear hK; clear hK; clear hK; clear hK; refine hK _ ?_; clear hK) | (refine wSeq fun K hK => ?_) | (refine wReg ?_; simp only [List.map_cons, List.map_nil, strip]) | (refine wDrwQ rfl (by kernel_rfl) ?_; simp only [List.map_cons, List.map_nil, strip]) | (refine wDrwI ?_; simp only [List.map_cons, List.map_nil, strip]) | (refine wDrw (by kernel_rfl) ?_; simp only [List.map_cons, List.map_nil, strip]) | (refine wIs fun K hK => ?_; simp [h1, h1', h2]) | (refine wIn ?_; refine And.intro (by kernel_rfl) ?_; try simp only [thenA_n]) | (refine wOs fun K hK => ?_; simp [h1, h1', h2]) | (refine wQs fun K hK => ?_; simp [h1, h1', h2]) | (refine CallK_plain ?_; simp [h1, h1', h2]) | (refine CallQ_plain ?_; simp [h1, h1', h2]) | (refine wRet ?_; try simp) | (refine wCond ?_; simp [h1, h1', h2]) | (refine wBlock ?_) | (refine wScope ?_) | (refine wLabel ?_; try simp only [thenA_n]) | (refine wExit ?_; try simp) | (refine wSkip ?_; try simp) | (refine wOn ?_; try simp only [thenA_n]) | (refine wQn ?_; try simp only [thenA_n])
    all_goals apply hr
    all_goals simp [Tryd.f20]
  by_cases h3 : 9999999999 < n
  · rw [if_pos (.inr h3)]
    refine wBody Tryd.tab Tryd.mixed Tryd.func20 rfl rfl Tryd.ntmps20 (by simp) (by simp) fun Q hr hn => ?_
    repeat' first | (refine hK _ ?_; clear hK) | (refine hK _ _ ?_; clear hK) | (clear hK; refine hK _ ?_; clear hK) | (clear hK; clear hK; refine hK _ ?_; clear hK) | (clear hK; clear hK; clear hK; refine hK _ ?_; clear hK) | (clear hK; clear hK; clear hK; clear hK; refine hK _ ?_; clear hK) | (refine wSeq fun K hK => ?_) | (refine wReg ?_; simp only [List.map_cons, List.map_nil, strip]) | (refine wDrwQ rfl (by kernel_rfl) ?_; simp only [List.map_cons, List.map_nil, strip]) | (refine wDrwI ?_; simp only [List.map_cons, List.map_nil, strip]) | (refine wDrw (by kernel_rfl) ?_; simp only [List.map_cons, List.map_nil, strip]) | (refine wIs fun K hK => ?_; simp [h1, h1', h2, h3]) | (refine wIn ?_; refine And.intro (by kernel_rfl) ?_; try simp only [thenA_n]) | (refine wOs fun K hK => ?_; simp [h1, h1', h2, h3]) | (refine wQs fun K hK => ?_; simp [h1, h1', h2, h3]) | (refine CallK_plain ?_; simp [h1, h1', h2, h3]) | (refine CallQ_plain ?_; simp [h1, h1', h2, h3]) | (refine wRet ?_; try simp) | (refine wCond ?_; simp [h1, h1', h2, h3]) | (refine wBlock ?_) | (refine wScope ?_) | (refine wLabel ?_; try simp only [thenA_n]) | (refine wExit ?_; try simp) | (refine wSkip ?_; try simp) | (refine wOn ?_; try simp only [thenA_n]) | (refine wQn ?_; try simp only [thenA_n])
    all_goals apply hr
    all_goals simp [Tryd.f20]
  rw [if_neg (by omega)]
  have c1 := itoa_con (n := n) (by simp [rgt]; omega)
  obtain ⟨s1, s2, s3⟩ := itoa_pw h2 h3
  have hlen : (nbr p n).length = p.length + 10 := by rw [nbr, List.length_append, pw_len]
  have c3 := check_con (nbr p n) (by omega)
  have hw : IntKind.i64.wrap (10 - ((itoa n).length : Int)) = ((10 - (itoa n).length : Nat) : Int) := by rw [wrap_id] <;> omega
  have c2 := rep_con (10 - (itoa n).length) (by omega)
  have e : p ++ (List.replicate (10 - (itoa n).length) 48 ++ itoa n) = nbr p n := by rw [s3]; rfl
  have hs1 : p.length + (10 - (itoa n).length) ≤ 9223372036854775807 := by omega
  have hs2 : p.length + (10 - (itoa n).length) + (itoa n).length ≤ 9223372036854775807 := by omega
  have hs3 : p.length + (10 - (itoa n).length + (itoa n).length) ≤ 9223372036854775807 := by omega
  generalize nbr p n = t at c3 e ⊢
  generalize itoa n = s at c1 hw c2 e hs1 hs2 hs3
  generalize 10 - s.length = c at hw c2 e hs1 hs2 hs3
  by_cases h4 : chk t = 0
  · rw [if_pos h4]
    rw [h4] at c3
    refine wBody Tryd.tab Tryd.mixed Tryd.func20 rfl rfl Tryd.ntmps20 (by simp) (by simp) fun Q hr hn => ?_
    repeat' first | (refine hK _ ?_; clear hK) | (refine hK _ _ ?_; clear hK) | (clear hK; refine hK _ ?_; clear hK) | (clear hK; clear hK; refine hK _ ?_; clear hK) | (clear hK; clear hK; clear hK; refine hK _ ?_; clear hK) | (clear hK; clear hK; clear hK; clear hK; refine hK _ ?_; clear hK) | (refine wSeq fun K hK => ?_) | (refine wReg ?_; simp only [List.map_cons, List.map_nil, strip]) | (refine wDrwQ rfl (by kernel_rfl) ?_; simp only [List.map_cons, List.map_nil, strip]) | (refine wDrwI ?_; simp only [List.map_cons, List.map_nil, strip]) | (refine wDrw (by kernel_rfl) ?_; simp only [List.map_cons, List.map_nil, strip]) | (refine wIs fun K hK => ?_; simp [h1, h1', h2, h3, hw, hs1, hs2, hs3, e]) | (refine wIn ?_; refine And.intro (by kernel_rfl) ?_; try simp only [thenA_n]) | (refine wOs fun K hK => ?_; simp [h1, h1', h2, h3, hw, hs1, hs2, hs3, e]) | (refine wQs fun K hK => ?_; simp [h1, h1', h2, h3, hw, hs1, hs2, hs3, e]) | (refine CallK_plain ?_; simp [h1, h1', h2, h3, hw, hs1, hs2, hs3, e]) | (refine CallQ_plain ?_; simp [h1, h1', h2, h3, hw, hs1, hs2, hs3, e]) | (refine wRet ?_; try simp) | (refine wCond ?_; simp [h1, h1', h2, h3, hw, hs1, hs2, hs3, e]) | (refine wBlock ?_) | (refine wScope ?_) | (refine wLabel ?_; try simp only [thenA_n]) | (refine wExit ?_; try simp) | (refine wSkip ?_; try simp) | (refine wOn ?_; try simp only [thenA_n]) | (refine wQn ?_; try simp only [thenA_n]) | (refine CallE.pure (c1) rfl ?_) | (refine CallE.lent (c1) rfl ?_) | (refine CallF.pure (c1) rfl ?_) | (refine CallF.lent (c1) rfl ?_) | (refine CallE.own (c1) ?_) | (refine CallE.pure (c2) rfl ?_) | (refine CallE.lent (c2) rfl ?_) | (refine CallF.pure (c2) rfl ?_) | (refine CallF.lent (c2) rfl ?_) | (refine CallE.own (c2) ?_) | (refine CallE.pure (c3) rfl ?_) | (refine CallE.lent (c3) rfl ?_) | (refine CallF.pure (c3) rfl ?_) | (refine CallF.lent (c3) rfl ?_) | (refine CallE.own (c3) ?_)
    all_goals apply hr
    all_goals simp [Tryd.f20, e]
  · rw [if_neg h4]
    generalize chk t = q at c3 h4
    refine wBody Tryd.tab Tryd.mixed Tryd.func20 rfl rfl Tryd.ntmps20 (by simp) (by simp) fun Q hr hn => ?_
    repeat' first | (refine hK _ ?_; clear hK) | (refine hK _ _ ?_; clear hK) | (clear hK; refine hK _ ?_; clear hK) | (clear hK; clear hK; refine hK _ ?_; clear hK) | (clear hK; clear hK; clear hK; refine hK _ ?_; clear hK) | (clear hK; clear hK; clear hK; clear hK; refine hK _ ?_; clear hK) | (refine wSeq fun K hK => ?_) | (refine wReg ?_; simp only [List.map_cons, List.map_nil, strip]) | (refine wDrwQ rfl (by kernel_rfl) ?_; simp only [List.map_cons, List.map_nil, strip]) | (refine wDrwI ?_; simp only [List.map_cons, List.map_nil, strip]) | (refine wDrw (by kernel_rfl) ?_; simp only [List.map_cons, List.map_nil, strip]) | (refine wIs fun K hK => ?_; simp [h1, h1', h2, h3, hw, hs1, hs2, hs3, e, h4]) | (refine wIn ?_; refine And.intro (by kernel_rfl) ?_; try simp only [thenA_n]) | (refine wOs fun K hK => ?_; simp [h1, h1', h2, h3, hw, hs1, hs2, hs3, e, h4]) | (refine wQs fun K hK => ?_; simp [h1, h1', h2, h3, hw, hs1, hs2, hs3, e, h4]) | (refine CallK_plain ?_; simp [h1, h1', h2, h3, hw, hs1, hs2, hs3, e, h4]) | (refine CallQ_plain ?_; simp [h1, h1', h2, h3, hw, hs1, hs2, hs3, e, h4]) | (refine wRet ?_; try simp) | (refine wCond ?_; simp [h1, h1', h2, h3, hw, hs1, hs2, hs3, e, h4]) | (refine wBlock ?_) | (refine wScope ?_) | (refine wLabel ?_; try simp only [thenA_n]) | (refine wExit ?_; try simp) | (refine wSkip ?_; try simp) | (refine wOn ?_; try simp only [thenA_n]) | (refine wQn ?_; try simp only [thenA_n]) | (refine CallE.pure (c1) rfl ?_) | (refine CallE.lent (c1) rfl ?_) | (refine CallF.pure (c1) rfl ?_) | (refine CallF.lent (c1) rfl ?_) | (refine CallE.own (c1) ?_) | (refine CallE.pure (c2) rfl ?_) | (refine CallE.lent (c2) rfl ?_) | (refine CallF.pure (c2) rfl ?_) | (refine CallF.lent (c2) rfl ?_) | (refine CallE.own (c2) ?_) | (refine CallE.pure (c3) rfl ?_) | (refine CallE.lent (c3) rfl ?_) | (refine CallF.pure (c3) rfl ?_) | (refine CallF.lent (c3) rfl ?_) | (refine CallE.own (c3) ?_)
    all_goals apply hr
    all_goals simp [Tryd.f20, e]
/-! ### The document's -/
def dcell (b : UInt8) : List PV := [.v (.int .u8 b.toNat)]
theorem unL_dc : ∀ l : List UInt8, unL (l.map dcell) = some (l.map fun b => (b.toNat : Int))
  | [] => rfl
  | b :: l => by
    show (match unL (l.map dcell) with | some ns => some ((b.toNat : Int) :: ns) | none => none) = _
    rw [unL_dc l]; rfl
theorem push_bs (a : List UInt8) (b : UInt8) : (bs a).push (UInt8.ofNat ((b.toNat : Nat) : Int).toNat) = bs (a ++ [b]) := by
  have e : UInt8.ofNat ((b.toNat : Nat) : Int).toNat = b := by rw [Int.toNat_natCast, UInt8.ofNat_toNat]
  rw [e]
  show ByteArray.mk (a.toArray.push b) = ByteArray.mk (a ++ [b]).toArray
  rw [List.push_toArray]
theorem strOf_dc (l : List UInt8) : strOf (l.map fun b => (b.toNat : Int)) = bs l := by
  have key : ∀ (l a : List UInt8), (l.map fun b => (b.toNat : Int)).foldl (fun r n => r.push (UInt8.ofNat n.toNat)) (bs a) = bs (a ++ l) := by
    intro l
    induction l with
    | nil => intro a; rw [List.append_nil]; rfl
    | cons b l ih =>
      intro a
      rw [List.map_cons, List.foldl_cons, push_bs, ih, List.append_assoc]; rfl
  exact key l []
def drow (n k : Nat) : List (List PV) := List.replicate (10 - k) [.v (.int .u8 0)] ++ (pw k n).map dcell
theorem set_rep {α : Type} (z c : α) : ∀ (j : Nat) (r : List α), (List.replicate (j + 1) z ++ r).set j c = List.replicate j z ++ c :: r
  | 0, r => by simp
  | j + 1, r => by
    have := set_rep z c j r
    rw [List.replicate_succ, List.cons_append, List.set_cons_succ, this]
    rw [List.replicate_succ, List.cons_append]
theorem drow_step {n k : Nat} (h : k < 10) : (drow n k).set (9 - k) [.v (.int .u8 ((48 + n / 10 ^ k % 10 : Nat) : Int))] = drow n (k + 1) := by
  have hd : n / 10 ^ k % 10 < 10 := Nat.mod_lt _ (by omega)
  unfold drow
  rw [pw_front, List.map_cons, show 10 - k = 9 - k + 1 by omega, set_rep, show 10 - (k + 1) = 9 - k by omega]
  have : (UInt8.ofNat (48 + n / 10 ^ k % 10)).toNat = 48 + n / 10 ^ k % 10 := by rw [UInt8.toNat_ofNat']; omega
  rw [dcell, this]
theorem drow_len {n k : Nat} (h : k ≤ 10) : (drow n k).length = 10 := by
  unfold drow; rw [List.length_append, List.length_replicate, List.length_map, pw_len]; omega
theorem numbered03_con (p : List UInt8) (n : Int) (hp : p.length ≤ 9223372036854775807) : ACon Tryd.prog 21 [.p (SB p), .p (I n)] (.tup [.p (SB (nmb p n).1), .p (I (nmb p n).2)]) := by
  unfold nmb
  by_cases h1 : 64 < p.length
  · have h1' : (64 : Int) < p.length := by omega
    rw [if_pos h1]
    refine wBody Tryd.tab Tryd.mixed Tryd.func21 rfl rfl Tryd.ntmps21 (by simp) (by simp) fun Q hr hn => ?_
    repeat' first | (refine hK _ ?_; clear hK) | (refine hK _ _ ?_; clear hK) | (clear hK; refine hK _ ?_; clear hK) | (clear hK; clear hK; refine hK _ ?_; clear hK) | (clear hK; clear hK; clear hK; refine hK _ ?_; clear hK) | (clear hK; clear hK; clear hK; clear hK; refine hK _ ?_; clear hK) | (refine wSeq fun K hK => ?_) | (refine wReg ?_; simp only [List.map_cons, List.map_nil, strip]) | (refine wDrwQ rfl (by kernel_rfl) ?_; simp only [List.map_cons, List.map_nil, strip]) | (refine wDrwI ?_; simp only [List.map_cons, List.map_nil, strip]) | (refine wDrw (by kernel_rfl) ?_; simp only [List.map_cons, List.map_nil, strip]) | (refine wIs fun K hK => ?_; simp [h1, h1']) | (refine wIn ?_; refine And.intro (by kernel_rfl) ?_; try simp only [thenA_n]) | (refine wOs fun K hK => ?_; simp [h1, h1']) | (refine wQs fun K hK => ?_; simp [h1, h1']) | (refine CallK_plain ?_; simp [h1, h1']) | (refine CallQ_plain ?_; simp [h1, h1']) | (refine wRet ?_; try simp) | (refine wCond ?_; simp [h1, h1']) | (refine wBlock ?_) | (refine wScope ?_) | (refine wLabel ?_; try simp only [thenA_n]) | (refine wExit ?_; try simp) | (refine wSkip ?_; try simp) | (refine wOn ?_; try simp only [thenA_n]) | (refine wQn ?_; try simp only [thenA_n])
    all_goals apply hr
    all_goals simp [Tryd.f21]
  have h1' : ¬ (64 : Int) < p.length := by omega
  rw [if_neg h1]
  by_cases h2 : n < 0
  · rw [if_pos (.inl h2)]
    refine wBody Tryd.tab Tryd.mixed Tryd.func21 rfl rfl Tryd.ntmps21 (by simp) (by simp) fun Q hr hn => ?_
    repeat' first | (refine hK _ ?_; clear hK) | (refine hK _ _ ?_; clear hK) | (clear hK; refine hK _ ?_; clear hK) | (clear hK; clear hK; refine hK _ ?_; clear hK) | (clear hK; clear hK; clear hK; refine hK _ ?_; clear hK) | (clear hK; clear hK; clear hK; clear hK; refine hK _ ?_; clear hK) | (refine wSeq fun K hK => ?_) | (refine wReg ?_; simp only [List.map_cons, List.map_nil, strip]) | (refine wDrwQ rfl (by kernel_rfl) ?_; simp only [List.map_cons, List.map_nil, strip]) | (refine wDrwI ?_; simp only [List.map_cons, List.map_nil, strip]) | (refine wDrw (by kernel_rfl) ?_; simp only [List.map_cons, List.map_nil, strip]) | (refine wIs fun K hK => ?_; simp [h1, h1', h2]) | (refine wIn ?_; refine And.intro (by kernel_rfl) ?_; try simp only [thenA_n]) | (refine wOs fun K hK => ?_; simp [h1, h1', h2]) | (refine wQs fun K hK => ?_; simp [h1, h1', h2]) | (refine CallK_plain ?_; simp [h1, h1', h2]) | (refine CallQ_plain ?_; simp [h1, h1', h2]) | (refine wRet ?_; try simp) | (refine wCond ?_; simp [h1, h1', h2]) | (refine wBlock ?_) | (refine wScope ?_) | (refine wLabel ?_; try simp only [thenA_n]) | (refine wExit ?_; try simp) | (refine wSkip ?_; try simp) | (refine wOn ?_; try simp only [thenA_n]) | (refine wQn ?_; try simp only [thenA_n])
    all_goals apply hr
    all_goals simp [Tryd.f21]
  by_cases h3 : 9999999999 < n
  · rw [if_pos (.inr h3)]
    refine wBody Tryd.tab Tryd.mixed Tryd.func21 rfl rfl Tryd.ntmps21 (by simp) (by simp) fun Q hr hn => ?_
    repeat' first | (refine hK _ ?_; clear hK) | (refine hK _ _ ?_; clear hK) | (clear hK; refine hK _ ?_; clear hK) | (clear hK; clear hK; refine hK _ ?_; clear hK) | (clear hK; clear hK; clear hK; refine hK _ ?_; clear hK) | (clear hK; clear hK; clear hK; clear hK; refine hK _ ?_; clear hK) | (refine wSeq fun K hK => ?_) | (refine wReg ?_; simp only [List.map_cons, List.map_nil, strip]) | (refine wDrwQ rfl (by kernel_rfl) ?_; simp only [List.map_cons, List.map_nil, strip]) | (refine wDrwI ?_; simp only [List.map_cons, List.map_nil, strip]) | (refine wDrw (by kernel_rfl) ?_; simp only [List.map_cons, List.map_nil, strip]) | (refine wIs fun K hK => ?_; simp [h1, h1', h2, h3]) | (refine wIn ?_; refine And.intro (by kernel_rfl) ?_; try simp only [thenA_n]) | (refine wOs fun K hK => ?_; simp [h1, h1', h2, h3]) | (refine wQs fun K hK => ?_; simp [h1, h1', h2, h3]) | (refine CallK_plain ?_; simp [h1, h1', h2, h3]) | (refine CallQ_plain ?_; simp [h1, h1', h2, h3]) | (refine wRet ?_; try simp) | (refine wCond ?_; simp [h1, h1', h2, h3]) | (refine wBlock ?_) | (refine wScope ?_) | (refine wLabel ?_; try simp only [thenA_n]) | (refine wExit ?_; try simp) | (refine wSkip ?_; try simp) | (refine wOn ?_; try simp only [thenA_n]) | (refine wQn ?_; try simp only [thenA_n])
    all_goals apply hr
    all_goals simp [Tryd.f21]
  rw [if_neg (by omega)]
  have hlen : (nbr p n).length = p.length + 10 := by rw [nbr, List.length_append, pw_len]
  have c3 := check03_con (nbr p n) (by omega)
  obtain ⟨N, rfl⟩ : ∃ N : Nat, n = N := ⟨n.toNat, by omega⟩
  have hN : N ≤ 9999999999 := by omega
  have e : p ++ pw 10 N = nbr p N := rfl
  generalize nbr p N = t at c3 e ⊢
  refine wBody Tryd.tab Tryd.mixed Tryd.func21 rfl rfl Tryd.ntmps21 (by simp) (by simp) fun Q hr hn => ?_
  repeat' first | (refine hK _ ?_; clear hK) | (refine hK _ _ ?_; clear hK) | (clear hK; refine hK _ ?_; clear hK) | (clear hK; clear hK; refine hK _ ?_; clear hK) | (clear hK; clear hK; clear hK; refine hK _ ?_; clear hK) | (clear hK; clear hK; clear hK; clear hK; refine hK _ ?_; clear hK) | (refine wSeq fun K hK => ?_) | (refine wReg ?_; simp only [List.map_cons, List.map_nil, strip]) | (refine wDrwQ rfl (by kernel_rfl) ?_; simp only [List.map_cons, List.map_nil, strip]) | (refine wDrwI ?_; simp only [List.map_cons, List.map_nil, strip]) | (refine wDrw (by kernel_rfl) ?_; simp only [List.map_cons, List.map_nil, strip]) | (refine wIs fun K hK => ?_; simp [h1, h1', h2, h3]) | (refine wIn ?_; refine And.intro (by kernel_rfl) ?_; try simp only [thenA_n]) | (refine wOs fun K hK => ?_; simp [h1, h1', h2, h3]) | (refine wQs fun K hK => ?_; simp [h1, h1', h2, h3]) | (refine CallK_plain ?_; simp [h1, h1', h2, h3]) | (refine CallQ_plain ?_; simp [h1, h1', h2, h3]) | (refine wRet ?_; try simp) | (refine wCond ?_; simp [h1, h1', h2, h3]) | (refine wBlock ?_) | (refine wScope ?_) | (refine wLabel ?_; try simp only [thenA_n]) | (refine wExit ?_; try simp) | (refine wSkip ?_; try simp) | (refine wOn ?_; try simp only [thenA_n]) | (refine wQn ?_; try simp only [thenA_n])
  refine wLoop (fun M st => ∃ k, k + M = 10 ∧ st.s 0 = .p (SB p) ∧ st.s 1 = .p (I (N / 10 ^ k : Nat)) ∧ st.s 20 = .p (I k) ∧ st.s 6 = .row 19 ∧ st.b 19 = some (.row 5 1 (drow N k))) 10 ⟨0, by simp [drow, pw]⟩ fun K M st hL ⟨k, hk, g0, g1, g20, g6, b19⟩ => ?_
  by_cases hlt : k < 10
  · have hw := wrapS k 10 hlt (by omega)
    have hlt' : (k : Int) < 10 := by omega
    have hs := drow_step (n := N) hlt
    have hl := drow_len (n := N) (k := k) (by omega)
    have hw9 : IntKind.i64.wrap (9 - (k : Int)) = ((9 - k : Nat) : Int) := by rw [wrap_id] <;> omega
    have hm : ((N / 10 ^ k : Nat) : Int).tmod 10 = ((N / 10 ^ k % 10 : Nat) : Int) := rfl
    have hd : ((N / 10 ^ k : Nat) : Int).tdiv 10 = ((N / 10 ^ (k + 1) : Nat) : Int) := by
      rw [Nat.pow_succ, ← Nat.div_div_eq_div_mul]; rfl
    have hb : N / 10 ^ (k + 1) ≤ 9999999999 := Nat.le_trans (Nat.div_le_self _ _) hN
    have hdg : N / 10 ^ k % 10 < 10 := Nat.mod_lt _ (by omega)
    generalize hn2 : N / 10 ^ (k + 1) = n2 at hd hb ⊢
    have hwd : IntKind.i64.wrap (n2 : Int) = (n2 : Int) := by rw [wrap_id] <;> omega
    generalize N / 10 ^ k % 10 = dg at hs hm hdg
    generalize N / 10 ^ k = n1 at hm hd g1
    have hwa : IntKind.i64.wrap (48 + (dg : Int)) = 48 + (dg : Int) := by rw [wrap_id] <;> omega
    have hwb : IntKind.u8.wrap (48 + (dg : Int)) = 48 + (dg : Int) := by simp [IntKind.wrap, IntKind.bits, IntKind.signed]; omega
    have h9 : 9 - k < 10 := by omega
    have hs' : (drow N k).set (9 - k) [PV.v (Value.int IntKind.u8 (48 + (dg : Int)))] = drow N (k + 1) := by rw [← hs]; congr 4
    have hg : ∃ y, (drow N k)[9 - k]? = some [y] := by
      have : 9 - k < (drow N k).length := by omega
      refine ⟨.v (.int .u8 0), ?_⟩
      unfold drow
      rw [List.getElem?_append_left (by simp; omega), List.getElem?_replicate, if_pos (by omega)]
    obtain ⟨y, hg⟩ := hg
    have hg' : ∀ h, (drow N k)[9 - k]'h = [y] := fun h => by rw [List.getElem?_eq_getElem h] at hg; simpa using hg
    repeat' first | (refine hK _ ?_; clear hK) | (refine hK _ _ ?_; clear hK) | (clear hK; refine hK _ ?_; clear hK) | (clear hK; clear hK; refine hK _ ?_; clear hK) | (clear hK; clear hK; clear hK; refine hK _ ?_; clear hK) | (clear hK; clear hK; clear hK; clear hK; refine hK _ ?_; clear hK) | (refine wSeq fun K hK => ?_) | (refine wReg ?_; simp only [List.map_cons, List.map_nil, strip]) | (refine wDrwQ rfl (by kernel_rfl) ?_; simp only [List.map_cons, List.map_nil, strip]) | (refine wDrwI ?_; simp only [List.map_cons, List.map_nil, strip]) | (refine wDrw (by kernel_rfl) ?_; simp only [List.map_cons, List.map_nil, strip]) | (refine wIs fun K hK => ?_; simp [g0, g1, g20, g6, b19, hlt, hlt', hw, hw9, hm, hd, hwd, hwa, hwb, hl, h9, hg', hs', PV.one, toPs, toP]) | (refine wIn ?_; refine And.intro (by kernel_rfl) ?_; try simp only [thenA_n]) | (refine wOs fun K hK => ?_; simp [g0, g1, g20, g6, b19, hlt, hlt', hw, hw9, hm, hd, hwd, hwa, hwb, hl, h9, hg', hs', PV.one, toPs, toP]) | (refine wQs fun K hK => ?_; simp [g0, g1, g20, g6, b19, hlt, hlt', hw, hw9, hm, hd, hwd, hwa, hwb, hl, h9, hg', hs', PV.one, toPs, toP]) | (refine CallK_plain ?_; simp [g0, g1, g20, g6, b19, hlt, hlt', hw, hw9, hm, hd, hwd, hwa, hwb, hl, h9, hg', hs', PV.one, toPs, toP]) | (refine CallQ_plain ?_; simp [g0, g1, g20, g6, b19, hlt, hlt', hw, hw9, hm, hd, hwd, hwa, hwb, hl, h9, hg', hs', PV.one, toPs, toP]) | (refine wRet ?_; try simp) | (refine wCond ?_; simp [g0, g1, g20, g6, b19, hlt, hlt', hw, hw9, hm, hd, hwd, hwa, hwb, hl, h9, hg', hs', PV.one, toPs, toP]) | (refine wBlock ?_) | (refine wScope ?_) | (refine wLabel ?_; try simp only [thenA_n]) | (refine wExit ?_; try simp) | (refine wSkip ?_; try simp) | (refine wOn ?_; try simp only [thenA_n]) | (refine wQn ?_; try simp only [thenA_n])
    refine hL _ (M - 1) (by omega) ⟨k + 1, by omega, ?_⟩
    rw [hn2]
    simp [g0, g1, g20, g6, b19, hw]
  · obtain rfl : k = 10 := by omega
    have hd0 : drow N 10 = (pw 10 N).map dcell := by simp [drow]
    rw [hd0] at b19
    have hpl : (pw 10 N).length = 10 := pw_len 10 N
    have hs1 : p.length + 10 ≤ 9223372036854775807 := by omega
    generalize pw 10 N = q at b19 e hpl
    have hu := unL_dc q
    have hso := strOf_dc q
    by_cases h4 : chk t = 0
    · rw [if_pos h4] at hr
      rw [h4] at c3
      repeat' first | (refine hK _ ?_; clear hK) | (refine hK _ _ ?_; clear hK) | (clear hK; refine hK _ ?_; clear hK) | (clear hK; clear hK; refine hK _ ?_; clear hK) | (clear hK; clear hK; clear hK; refine hK _ ?_; clear hK) | (clear hK; clear hK; clear hK; clear hK; refine hK _ ?_; clear hK) | (refine wSeq fun K hK => ?_) | (refine wReg ?_; simp only [List.map_cons, List.map_nil, strip]) | (refine wDrwQ rfl (by kernel_rfl) ?_; simp only [List.map_cons, List.map_nil, strip]) | (refine wDrwI ?_; simp only [List.map_cons, List.map_nil, strip]) | (refine wDrw (by kernel_rfl) ?_; simp only [List.map_cons, List.map_nil, strip]) | (refine wIs fun K hK => ?_; simp [g0, g1, g20, g6, b19, e, hpl, hs1, hu, hso]) | (refine wIn ?_; refine And.intro (by kernel_rfl) ?_; try simp only [thenA_n]) | (refine wOs fun K hK => ?_; simp [g0, g1, g20, g6, b19, e, hpl, hs1, hu, hso]) | (refine wQs fun K hK => ?_; simp [g0, g1, g20, g6, b19, e, hpl, hs1, hu, hso]) | (refine CallK_plain ?_; simp [g0, g1, g20, g6, b19, e, hpl, hs1, hu, hso]) | (refine CallQ_plain ?_; simp [g0, g1, g20, g6, b19, e, hpl, hs1, hu, hso]) | (refine wRet ?_; try simp) | (refine wCond ?_; simp [g0, g1, g20, g6, b19, e, hpl, hs1, hu, hso]) | (refine wBlock ?_) | (refine wScope ?_) | (refine wLabel ?_; try simp only [thenA_n]) | (refine wExit ?_; try simp) | (refine wSkip ?_; try simp) | (refine wOn ?_; try simp only [thenA_n]) | (refine wQn ?_; try simp only [thenA_n]) | (refine CallE.pure (c3) rfl ?_) | (refine CallE.lent (c3) rfl ?_) | (refine CallF.pure (c3) rfl ?_) | (refine CallF.lent (c3) rfl ?_) | (refine CallE.own (c3) ?_)
      all_goals apply hr
      all_goals simp [Tryd.f21, e]
    · rw [if_neg h4] at hr
      generalize chk t = z at c3 h4 hr
      repeat' first | (refine hK _ ?_; clear hK) | (refine hK _ _ ?_; clear hK) | (clear hK; refine hK _ ?_; clear hK) | (clear hK; clear hK; refine hK _ ?_; clear hK) | (clear hK; clear hK; clear hK; refine hK _ ?_; clear hK) | (clear hK; clear hK; clear hK; clear hK; refine hK _ ?_; clear hK) | (refine wSeq fun K hK => ?_) | (refine wReg ?_; simp only [List.map_cons, List.map_nil, strip]) | (refine wDrwQ rfl (by kernel_rfl) ?_; simp only [List.map_cons, List.map_nil, strip]) | (refine wDrwI ?_; simp only [List.map_cons, List.map_nil, strip]) | (refine wDrw (by kernel_rfl) ?_; simp only [List.map_cons, List.map_nil, strip]) | (refine wIs fun K hK => ?_; simp [g0, g1, g20, g6, b19, e, hpl, hs1, hu, hso, h4]) | (refine wIn ?_; refine And.intro (by kernel_rfl) ?_; try simp only [thenA_n]) | (refine wOs fun K hK => ?_; simp [g0, g1, g20, g6, b19, e, hpl, hs1, hu, hso, h4]) | (refine wQs fun K hK => ?_; simp [g0, g1, g20, g6, b19, e, hpl, hs1, hu, hso, h4]) | (refine CallK_plain ?_; simp [g0, g1, g20, g6, b19, e, hpl, hs1, hu, hso, h4]) | (refine CallQ_plain ?_; simp [g0, g1, g20, g6, b19, e, hpl, hs1, hu, hso, h4]) | (refine wRet ?_; try simp) | (refine wCond ?_; simp [g0, g1, g20, g6, b19, e, hpl, hs1, hu, hso, h4]) | (refine wBlock ?_) | (refine wScope ?_) | (refine wLabel ?_; try simp only [thenA_n]) | (refine wExit ?_; try simp) | (refine wSkip ?_; try simp) | (refine wOn ?_; try simp only [thenA_n]) | (refine wQn ?_; try simp only [thenA_n]) | (refine CallE.pure (c3) rfl ?_) | (refine CallE.lent (c3) rfl ?_) | (refine CallF.pure (c3) rfl ?_) | (refine CallF.lent (c3) rfl ?_) | (refine CallE.own (c3) ?_)
      all_goals apply hr
      all_goals simp [Tryd.f21, e]
/-- What lies below, as the document says it. -/
theorem blw_doc (p q : List UInt8) : blw p q = decide (chk p = 0 ∧ chk q = 0 ∧ p ≠ q ∧ (q = [47] ∨ (q.length < p.length ∧ p.take q.length = q ∧ p[q.length]? = some 47))) := by
  rw [Bool.eq_iff_iff, blw_iff, decide_eq_true_eq]
  constructor
  · rintro ⟨h1, h2, h3, h4⟩
    refine ⟨h1, h2, h3, ?_⟩
    by_cases hq : q = [47]
    · exact .inl hq
    · obtain ⟨r, rfl⟩ := (hpx_bel h2 hq).1 h4
      right
      exact ⟨by simp, List.take_left, by rw [List.getElem?_append_right (by omega)]; simp⟩
  · rintro ⟨h1, h2, h3, h4⟩
    refine ⟨h1, h2, h3, ?_⟩
    rcases h4 with rfl | ⟨h5, h6, h7⟩
    · exact hpx_root.2 (chk_head h1)
    · by_cases hq : q = [47]
      · subst hq; exact hpx_root.2 (chk_head h1)
      · refine (hpx_bel h2 hq).2 ⟨p.drop (q.length + 1), ?_⟩
        have e1 := List.take_append_drop q.length p
        rw [h6] at e1
        rw [List.getElem?_eq_getElem h5] at h7
        rw [List.drop_eq_getElem_cons h5, Option.some.inj h7] at e1
        exact e1.symm
theorem Below03_con (p q : List UInt8) (hp : p.length ≤ 9223372036854775807) (hq : q.length ≤ 9223372036854775807) : ACon Tryd.prog 23 [.p (SB p), .p (SB q)] (.p (B (blw p q))) := by
  have c1 := check03_con p hp
  have c2 := check03_con q hq
  rw [blw_doc]
  by_cases h1 : chk p = 0
  · rw [h1] at c1
    by_cases h2 : chk q = 0
    · rw [h2] at c2
      by_cases h3 : p = q
      · rw [decide_eq_false (fun h => h.2.2.1 h3)]
        subst h3
        refine wBody Tryd.tab Tryd.mixed Tryd.func23 rfl rfl Tryd.ntmps23 (by simp) (by simp) fun Q hr hn => ?_
        repeat' first | (refine hK _ ?_; clear hK) | (refine hK _ _ ?_; clear hK) | (clear hK; refine hK _ ?_; clear hK) | (clear hK; clear hK; refine hK _ ?_; clear hK) | (clear hK; clear hK; clear hK; refine hK _ ?_; clear hK) | (clear hK; clear hK; clear hK; clear hK; refine hK _ ?_; clear hK) | (refine wSeq fun K hK => ?_) | (refine wReg ?_; simp only [List.map_cons, List.map_nil, strip]) | (refine wDrwQ rfl (by kernel_rfl) ?_; simp only [List.map_cons, List.map_nil, strip]) | (refine wDrwI ?_; simp only [List.map_cons, List.map_nil, strip]) | (refine wDrw (by kernel_rfl) ?_; simp only [List.map_cons, List.map_nil, strip]) | (refine wIs fun K hK => ?_; simp) | (refine wIn ?_; refine And.intro (by kernel_rfl) ?_; try simp only [thenA_n]) | (refine wOs fun K hK => ?_; simp) | (refine wQs fun K hK => ?_; simp) | (refine CallK_plain ?_; simp) | (refine CallQ_plain ?_; simp) | (refine wRet ?_; try simp) | (refine wCond ?_; simp) | (refine wBlock ?_) | (refine wScope ?_) | (refine wLabel ?_; try simp only [thenA_n]) | (refine wExit ?_; try simp) | (refine wSkip ?_; try simp) | (refine wOn ?_; try simp only [thenA_n]) | (refine wQn ?_; try simp only [thenA_n]) | (refine CallE.pure (c1) rfl ?_) | (refine CallE.lent (c1) rfl ?_) | (refine CallF.pure (c1) rfl ?_) | (refine CallF.lent (c1) rfl ?_) | (refine CallE.own (c1) ?_)
        all_goals apply hr
        all_goals simp [Tryd.f23]
      by_cases h4 : q = [47]
      · rw [decide_eq_true ⟨h1, h2, h3, .inl h4⟩]
        subst h4
        refine wBody Tryd.tab Tryd.mixed Tryd.func23 rfl rfl Tryd.ntmps23 (by simp) (by simp) fun Q hr hn => ?_
        repeat' first | (refine hK _ ?_; clear hK) | (refine hK _ _ ?_; clear hK) | (clear hK; refine hK _ ?_; clear hK) | (clear hK; clear hK; refine hK _ ?_; clear hK) | (clear hK; clear hK; clear hK; refine hK _ ?_; clear hK) | (clear hK; clear hK; clear hK; clear hK; refine hK _ ?_; clear hK) | (refine wSeq fun K hK => ?_) | (refine wReg ?_; simp only [List.map_cons, List.map_nil, strip]) | (refine wDrwQ rfl (by kernel_rfl) ?_; simp only [List.map_cons, List.map_nil, strip]) | (refine wDrwI ?_; simp only [List.map_cons, List.map_nil, strip]) | (refine wDrw (by kernel_rfl) ?_; simp only [List.map_cons, List.map_nil, strip]) | (refine wIs fun K hK => ?_; simp [h3]) | (refine wIn ?_; refine And.intro (by kernel_rfl) ?_; try simp only [thenA_n]) | (refine wOs fun K hK => ?_; simp [h3]) | (refine wQs fun K hK => ?_; simp [h3]) | (refine CallK_plain ?_; simp [h3]) | (refine CallQ_plain ?_; simp [h3]) | (refine wRet ?_; try simp) | (refine wCond ?_; simp [h3]) | (refine wBlock ?_) | (refine wScope ?_) | (refine wLabel ?_; try simp only [thenA_n]) | (refine wExit ?_; try simp) | (refine wSkip ?_; try simp) | (refine wOn ?_; try simp only [thenA_n]) | (refine wQn ?_; try simp only [thenA_n]) | (refine CallE.pure (c1) rfl ?_) | (refine CallE.lent (c1) rfl ?_) | (refine CallF.pure (c1) rfl ?_) | (refine CallF.lent (c1) rfl ?_) | (refine CallE.own (c1) ?_) | (refine CallE.pure (c2) rfl ?_) | (refine CallE.lent (c2) rfl ?_) | (refine CallF.pure (c2) rfl ?_) | (refine CallF.lent (c2) rfl ?_) | (refine CallE.own (c2) ?_)
        all_goals apply hr
        all_goals simp [Tryd.f23]
      by_cases h5 : q.length < p.length
      · have h5' : (q.length : Int) < p.length := by omega
        have h5'' : q.length ≤ p.length := by omega
        by_cases h6 : p.take q.length = q
        · have hx : p[q.length]? = some p[q.length] := List.getElem?_eq_getElem h5
          by_cases h7 : p[q.length] = 47
          · have h7' : (p[q.length].toNat : Int) = 47 := by rw [h7]; rfl
            rw [decide_eq_true ⟨h1, h2, h3, .inr ⟨h5, h6, by rw [hx, h7]⟩⟩]
            refine wBody Tryd.tab Tryd.mixed Tryd.func23 rfl rfl Tryd.ntmps23 (by simp) (by simp) fun Q hr hn => ?_
            repeat' first | (refine hK _ ?_; clear hK) | (refine hK _ _ ?_; clear hK) | (clear hK; refine hK _ ?_; clear hK) | (clear hK; clear hK; refine hK _ ?_; clear hK) | (clear hK; clear hK; clear hK; refine hK _ ?_; clear hK) | (clear hK; clear hK; clear hK; clear hK; refine hK _ ?_; clear hK) | (refine wSeq fun K hK => ?_) | (refine wReg ?_; simp only [List.map_cons, List.map_nil, strip]) | (refine wDrwQ rfl (by kernel_rfl) ?_; simp only [List.map_cons, List.map_nil, strip]) | (refine wDrwI ?_; simp only [List.map_cons, List.map_nil, strip]) | (refine wDrw (by kernel_rfl) ?_; simp only [List.map_cons, List.map_nil, strip]) | (refine wIs fun K hK => ?_; simp [h3, h4, h5, h5', h5'', h6, h7, h7']) | (refine wIn ?_; refine And.intro (by kernel_rfl) ?_; try simp only [thenA_n]) | (refine wOs fun K hK => ?_; simp [h3, h4, h5, h5', h5'', h6, h7, h7']) | (refine wQs fun K hK => ?_; simp [h3, h4, h5, h5', h5'', h6, h7, h7']) | (refine CallK_plain ?_; simp [h3, h4, h5, h5', h5'', h6, h7, h7']) | (refine CallQ_plain ?_; simp [h3, h4, h5, h5', h5'', h6, h7, h7']) | (refine wRet ?_; try simp) | (refine wCond ?_; simp [h3, h4, h5, h5', h5'', h6, h7, h7']) | (refine wBlock ?_) | (refine wScope ?_) | (refine wLabel ?_; try simp only [thenA_n]) | (refine wExit ?_; try simp) | (refine wSkip ?_; try simp) | (refine wOn ?_; try simp only [thenA_n]) | (refine wQn ?_; try simp only [thenA_n]) | (refine CallE.pure (c1) rfl ?_) | (refine CallE.lent (c1) rfl ?_) | (refine CallF.pure (c1) rfl ?_) | (refine CallF.lent (c1) rfl ?_) | (refine CallE.own (c1) ?_) | (refine CallE.pure (c2) rfl ?_) | (refine CallE.lent (c2) rfl ?_) | (refine CallF.pure (c2) rfl ?_) | (refine CallF.lent (c2) rfl ?_) | (refine CallE.own (c2) ?_)
            all_goals apply hr
            all_goals simp [Tryd.f23]
          · have h7' := ne47 h7
            rw [decide_eq_false (fun h => by
              rcases h.2.2.2 with h8 | ⟨-, -, h8⟩
              · exact h4 h8
              · rw [hx] at h8; exact h7 (Option.some.inj h8))]
            refine wBody Tryd.tab Tryd.mixed Tryd.func23 rfl rfl Tryd.ntmps23 (by simp) (by simp) fun Q hr hn => ?_
            repeat' first | (refine hK _ ?_; clear hK) | (refine hK _ _ ?_; clear hK) | (clear hK; refine hK _ ?_; clear hK) | (clear hK; clear hK; refine hK _ ?_; clear hK) | (clear hK; clear hK; clear hK; refine hK _ ?_; clear hK) | (clear hK; clear hK; clear hK; clear hK; refine hK _ ?_; clear hK) | (refine wSeq fun K hK => ?_) | (refine wReg ?_; simp only [List.map_cons, List.map_nil, strip]) | (refine wDrwQ rfl (by kernel_rfl) ?_; simp only [List.map_cons, List.map_nil, strip]) | (refine wDrwI ?_; simp only [List.map_cons, List.map_nil, strip]) | (refine wDrw (by kernel_rfl) ?_; simp only [List.map_cons, List.map_nil, strip]) | (refine wIs fun K hK => ?_; simp [h3, h4, h5, h5', h5'', h6, h7, h7']) | (refine wIn ?_; refine And.intro (by kernel_rfl) ?_; try simp only [thenA_n]) | (refine wOs fun K hK => ?_; simp [h3, h4, h5, h5', h5'', h6, h7, h7']) | (refine wQs fun K hK => ?_; simp [h3, h4, h5, h5', h5'', h6, h7, h7']) | (refine CallK_plain ?_; simp [h3, h4, h5, h5', h5'', h6, h7, h7']) | (refine CallQ_plain ?_; simp [h3, h4, h5, h5', h5'', h6, h7, h7']) | (refine wRet ?_; try simp) | (refine wCond ?_; simp [h3, h4, h5, h5', h5'', h6, h7, h7']) | (refine wBlock ?_) | (refine wScope ?_) | (refine wLabel ?_; try simp only [thenA_n]) | (refine wExit ?_; try simp) | (refine wSkip ?_; try simp) | (refine wOn ?_; try simp only [thenA_n]) | (refine wQn ?_; try simp only [thenA_n]) | (refine CallE.pure (c1) rfl ?_) | (refine CallE.lent (c1) rfl ?_) | (refine CallF.pure (c1) rfl ?_) | (refine CallF.lent (c1) rfl ?_) | (refine CallE.own (c1) ?_) | (refine CallE.pure (c2) rfl ?_) | (refine CallE.lent (c2) rfl ?_) | (refine CallF.pure (c2) rfl ?_) | (refine CallF.lent (c2) rfl ?_) | (refine CallE.own (c2) ?_)
            all_goals apply hr
            all_goals simp [Tryd.f23, h7']
        · rw [decide_eq_false (fun h => by
            rcases h.2.2.2 with h8 | ⟨-, h8, -⟩
            · exact h4 h8
            · exact h6 h8)]
          refine wBody Tryd.tab Tryd.mixed Tryd.func23 rfl rfl Tryd.ntmps23 (by simp) (by simp) fun Q hr hn => ?_
          repeat' first | (refine hK _ ?_; clear hK) | (refine hK _ _ ?_; clear hK) | (clear hK; refine hK _ ?_; clear hK) | (clear hK; clear hK; refine hK _ ?_; clear hK) | (clear hK; clear hK; clear hK; refine hK _ ?_; clear hK) | (clear hK; clear hK; clear hK; clear hK; refine hK _ ?_; clear hK) | (refine wSeq fun K hK => ?_) | (refine wReg ?_; simp only [List.map_cons, List.map_nil, strip]) | (refine wDrwQ rfl (by kernel_rfl) ?_; simp only [List.map_cons, List.map_nil, strip]) | (refine wDrwI ?_; simp only [List.map_cons, List.map_nil, strip]) | (refine wDrw (by kernel_rfl) ?_; simp only [List.map_cons, List.map_nil, strip]) | (refine wIs fun K hK => ?_; simp [h3, h4, h5, h5', h5'', h6]) | (refine wIn ?_; refine And.intro (by kernel_rfl) ?_; try simp only [thenA_n]) | (refine wOs fun K hK => ?_; simp [h3, h4, h5, h5', h5'', h6]) | (refine wQs fun K hK => ?_; simp [h3, h4, h5, h5', h5'', h6]) | (refine CallK_plain ?_; simp [h3, h4, h5, h5', h5'', h6]) | (refine CallQ_plain ?_; simp [h3, h4, h5, h5', h5'', h6]) | (refine wRet ?_; try simp) | (refine wCond ?_; simp [h3, h4, h5, h5', h5'', h6]) | (refine wBlock ?_) | (refine wScope ?_) | (refine wLabel ?_; try simp only [thenA_n]) | (refine wExit ?_; try simp) | (refine wSkip ?_; try simp) | (refine wOn ?_; try simp only [thenA_n]) | (refine wQn ?_; try simp only [thenA_n]) | (refine CallE.pure (c1) rfl ?_) | (refine CallE.lent (c1) rfl ?_) | (refine CallF.pure (c1) rfl ?_) | (refine CallF.lent (c1) rfl ?_) | (refine CallE.own (c1) ?_) | (refine CallE.pure (c2) rfl ?_) | (refine CallE.lent (c2) rfl ?_) | (refine CallF.pure (c2) rfl ?_) | (refine CallF.lent (c2) rfl ?_) | (refine CallE.own (c2) ?_)
          all_goals apply hr
          all_goals simp [Tryd.f23]
      · have h5' : ¬ (q.length : Int) < p.length := by omega
        rw [decide_eq_false (fun h => by
          rcases h.2.2.2 with h8 | ⟨h8, -, -⟩
          · exact h4 h8
          · exact h5 h8)]
        refine wBody Tryd.tab Tryd.mixed Tryd.func23 rfl rfl Tryd.ntmps23 (by simp) (by simp) fun Q hr hn => ?_
        repeat' first | (refine hK _ ?_; clear hK) | (refine hK _ _ ?_; clear hK) | (clear hK; refine hK _ ?_; clear hK) | (clear hK; clear hK; refine hK _ ?_; clear hK) | (clear hK; clear hK; clear hK; refine hK _ ?_; clear hK) | (clear hK; clear hK; clear hK; clear hK; refine hK _ ?_; clear hK) | (refine wSeq fun K hK => ?_) | (refine wReg ?_; simp only [List.map_cons, List.map_nil, strip]) | (refine wDrwQ rfl (by kernel_rfl) ?_; simp only [List.map_cons, List.map_nil, strip]) | (refine wDrwI ?_; simp only [List.map_cons, List.map_nil, strip]) | (refine wDrw (by kernel_rfl) ?_; simp only [List.map_cons, List.map_nil, strip]) | (refine wIs fun K hK => ?_; simp [h3, h4, h5, h5']) | (refine wIn ?_; refine And.intro (by kernel_rfl) ?_; try simp only [thenA_n]) | (refine wOs fun K hK => ?_; simp [h3, h4, h5, h5']) | (refine wQs fun K hK => ?_; simp [h3, h4, h5, h5']) | (refine CallK_plain ?_; simp [h3, h4, h5, h5']) | (refine CallQ_plain ?_; simp [h3, h4, h5, h5']) | (refine wRet ?_; try simp) | (refine wCond ?_; simp [h3, h4, h5, h5']) | (refine wBlock ?_) | (refine wScope ?_) | (refine wLabel ?_; try simp only [thenA_n]) | (refine wExit ?_; try simp) | (refine wSkip ?_; try simp) | (refine wOn ?_; try simp only [thenA_n]) | (refine wQn ?_; try simp only [thenA_n]) | (refine CallE.pure (c1) rfl ?_) | (refine CallE.lent (c1) rfl ?_) | (refine CallF.pure (c1) rfl ?_) | (refine CallF.lent (c1) rfl ?_) | (refine CallE.own (c1) ?_) | (refine CallE.pure (c2) rfl ?_) | (refine CallE.lent (c2) rfl ?_) | (refine CallF.pure (c2) rfl ?_) | (refine CallF.lent (c2) rfl ?_) | (refine CallE.own (c2) ?_)
        all_goals apply hr
        all_goals simp [Tryd.f23]
    · rw [decide_eq_false (fun h => h2 h.2.1)]
      generalize chk q = e at c2 h2
      refine wBody Tryd.tab Tryd.mixed Tryd.func23 rfl rfl Tryd.ntmps23 (by simp) (by simp) fun Q hr hn => ?_
      repeat' first | (refine hK _ ?_; clear hK) | (refine hK _ _ ?_; clear hK) | (clear hK; refine hK _ ?_; clear hK) | (clear hK; clear hK; refine hK _ ?_; clear hK) | (clear hK; clear hK; clear hK; refine hK _ ?_; clear hK) | (clear hK; clear hK; clear hK; clear hK; refine hK _ ?_; clear hK) | (refine wSeq fun K hK => ?_) | (refine wReg ?_; simp only [List.map_cons, List.map_nil, strip]) | (refine wDrwQ rfl (by kernel_rfl) ?_; simp only [List.map_cons, List.map_nil, strip]) | (refine wDrwI ?_; simp only [List.map_cons, List.map_nil, strip]) | (refine wDrw (by kernel_rfl) ?_; simp only [List.map_cons, List.map_nil, strip]) | (refine wIs fun K hK => ?_; simp [h2]) | (refine wIn ?_; refine And.intro (by kernel_rfl) ?_; try simp only [thenA_n]) | (refine wOs fun K hK => ?_; simp [h2]) | (refine wQs fun K hK => ?_; simp [h2]) | (refine CallK_plain ?_; simp [h2]) | (refine CallQ_plain ?_; simp [h2]) | (refine wRet ?_; try simp) | (refine wCond ?_; simp [h2]) | (refine wBlock ?_) | (refine wScope ?_) | (refine wLabel ?_; try simp only [thenA_n]) | (refine wExit ?_; try simp) | (refine wSkip ?_; try simp) | (refine wOn ?_; try simp only [thenA_n]) | (refine wQn ?_; try simp only [thenA_n]) | (refine CallE.pure (c1) rfl ?_) | (refine CallE.lent (c1) rfl ?_) | (refine CallF.pure (c1) rfl ?_) | (refine CallF.lent (c1) rfl ?_) | (refine CallE.own (c1) ?_) | (refine CallE.pure (c2) rfl ?_) | (refine CallE.lent (c2) rfl ?_) | (refine CallF.pure (c2) rfl ?_) | (refine CallF.lent (c2) rfl ?_) | (refine CallE.own (c2) ?_)
      all_goals apply hr
      all_goals simp [Tryd.f23]
  · rw [decide_eq_false (fun h => h1 h.1)]
    generalize chk p = e at c1 h1
    refine wBody Tryd.tab Tryd.mixed Tryd.func23 rfl rfl Tryd.ntmps23 (by simp) (by simp) fun Q hr hn => ?_
    repeat' first | (refine hK _ ?_; clear hK) | (refine hK _ _ ?_; clear hK) | (clear hK; refine hK _ ?_; clear hK) | (clear hK; clear hK; refine hK _ ?_; clear hK) | (clear hK; clear hK; clear hK; refine hK _ ?_; clear hK) | (clear hK; clear hK; clear hK; clear hK; refine hK _ ?_; clear hK) | (refine wSeq fun K hK => ?_) | (refine wReg ?_; simp only [List.map_cons, List.map_nil, strip]) | (refine wDrwQ rfl (by kernel_rfl) ?_; simp only [List.map_cons, List.map_nil, strip]) | (refine wDrwI ?_; simp only [List.map_cons, List.map_nil, strip]) | (refine wDrw (by kernel_rfl) ?_; simp only [List.map_cons, List.map_nil, strip]) | (refine wIs fun K hK => ?_; simp [h1]) | (refine wIn ?_; refine And.intro (by kernel_rfl) ?_; try simp only [thenA_n]) | (refine wOs fun K hK => ?_; simp [h1]) | (refine wQs fun K hK => ?_; simp [h1]) | (refine CallK_plain ?_; simp [h1]) | (refine CallQ_plain ?_; simp [h1]) | (refine wRet ?_; try simp) | (refine wCond ?_; simp [h1]) | (refine wBlock ?_) | (refine wScope ?_) | (refine wLabel ?_; try simp only [thenA_n]) | (refine wExit ?_; try simp) | (refine wSkip ?_; try simp) | (refine wOn ?_; try simp only [thenA_n]) | (refine wQn ?_; try simp only [thenA_n]) | (refine CallE.pure (c1) rfl ?_) | (refine CallE.lent (c1) rfl ?_) | (refine CallF.pure (c1) rfl ?_) | (refine CallF.lent (c1) rfl ?_) | (refine CallE.own (c1) ?_)
    all_goals apply hr
    all_goals simp [Tryd.f23]
theorem nmb_len {p : List UInt8} {n : Int} : (nmb p n).1.length ≤ 74 := by
  unfold nmb
  by_cases h1 : 64 < p.length
  · rw [if_pos h1]; simp
  rw [if_neg h1]
  split
  · simp
  split
  · show (nbr p n).length ≤ 74
    rw [nbr, List.length_append, pw_len]; omega
  · simp
theorem nmb_bad {p : List UInt8} {n : Int} (h : ¬ (nmb p n).2 = 0) : (nmb p n).1 = [] := by
  unfold nmb at h ⊢
  split at h
  · rename_i h1; rw [if_pos h1]
  rename_i h1
  rw [if_neg h1]
  split at h
  · rename_i h2; rw [if_pos h2]
  rename_i h2
  rw [if_neg h2]
  split at h
  · simp at h
  · rename_i h3; rw [if_neg h3]
theorem nmb_good {p : List UInt8} {n : Int} (h : (nmb p n).2 = 0) : (nmb p n).1 = p ++ pw 10 n.toNat ∧ 0 ≤ n ∧ n ≤ 9999999999 ∧ chk (nmb p n).1 = 0 := by
  unfold nmb at h ⊢
  split at h
  · simp at h
  rename_i h1
  rw [if_neg h1]
  split at h
  · simp at h
  rename_i h2
  rw [if_neg h2]
  split at h
  · rename_i h3
    rw [if_pos h3]
    exact ⟨rfl, by omega, by omega, h3⟩
  · rename_i h3; exact absurd h h3
theorem app_lt {p x y : List UInt8} : p ++ x < p ++ y ↔ x < y := by
  induction p with
  | nil => rfl
  | cons a p ih => rw [List.cons_append, List.cons_append, List.cons_lt_cons_iff, ih]; simp
theorem less_eq : ∀ (x y : List UInt8), Op.bytesLess x y = decide (x < y)
  | [], [] => by simp [Op.bytesLess]
  | [], y :: ys => by simp [Op.bytesLess]
  | x :: xs, [] => by simp [Op.bytesLess]
  | x :: xs, y :: ys => by
    rw [Op.bytesLess, less_eq xs ys]
    simp only [List.cons_lt_cons_iff]
    by_cases h1 : x < y <;> by_cases h2 : x = y <;> by_cases h3 : xs < ys <;> simp [h1, h2, h3]
theorem nmb_two {p : List UInt8} {n m : Int} (h : (nmb p n).2 = 0) (h' : (nmb p m).2 = 0) : Op.bytesLess (nmb p n).1 (nmb p m).1 = decide (n < m) ∧ ((nmb p n).1 = (nmb p m).1 ↔ n = m) ∧ (nmb p n).1.length = p.length + 10 := by
  obtain ⟨a1, a2, a3, -⟩ := nmb_good h
  obtain ⟨b1, b2, b3, -⟩ := nmb_good h'
  obtain ⟨c1, c2⟩ := pw_lt 10 n.toNat m.toNat (by simp; omega) (by simp; omega)
  rw [less_eq, a1, b1]
  refine ⟨?_, ?_, by rw [List.length_append, pw_len]⟩
  · rw [decide_eq_decide, app_lt, c1]; omega
  · rw [List.append_cancel_left_eq, c2]; omega
set_option maxHeartbeats 2000000 in
theorem pathNumbers_con (p : List UInt8) (n m : Int) (hp : p.length ≤ 9223372036854775807) : ACon Tryd.prog 7 [.p (SB p), .p (I n), .p (I m)] (.p (B true)) := by
  have c := long_con [p] (by simp)
  simp only [List.map_cons, List.map_nil, List.any_cons, List.any_nil, Bool.or_false] at c
  cases hlg : lng p
  · rw [hlg] at c
    have hp3 : p.length ≤ 3000 := by
      simp only [lng, decide_eq_false_iff_not] at hlg; omega
    have c1 := numbered_con p n hp
    have c2 := numbered_con p m hp
    have hl1 := nmb_len (p := p) (n := n)
    have c3 := check_con (nmb p n).1 (by omega)
    have f1 := fun h => nmb_bad (p := p) (n := n) h
    have f2 := fun h => nmb_bad (p := p) (n := m) h
    have f3 := fun h h' => nmb_two (p := p) (n := n) (m := m) h h'
    have f4 := fun h => (nmb_good (p := p) (n := n) h).2.2.2
    generalize nmb p n = a at *
    generalize nmb p m = b at *
    obtain ⟨a, e⟩ := a
    obtain ⟨b, f⟩ := b
    dsimp only at *
    by_cases he : e = 0
    · subst he
      rw [f4 rfl] at c3
      by_cases hf : f = 0
      · subst hf
        obtain ⟨k1, k2, k3⟩ := f3 rfl rfl
        have hw : IntKind.i64.wrap ((p.length : Int) + 10) = (p.length : Int) + 10 := by rw [wrap_id] <;> omega
        have k3' : (a.length : Int) = (p.length : Int) + 10 := by omega
        by_cases h2 : n = m
        · subst h2
          obtain rfl := k2.2 rfl
          have h1 : ¬ n < n := by omega
          have k1 : Op.bytesLess a a = false := by rw [k1]; simp
          have hab : (a == a) = true := by simp
          have hnm : (n == n) = true := by simp
          refine wBody Tryd.tab Tryd.mixed Tryd.func7 rfl rfl Tryd.ntmps7 (by simp) (by simp) fun Q hr hn => ?_
          repeat' first | (refine hK _ ?_; clear hK) | (refine hK _ _ ?_; clear hK) | (clear hK; refine hK _ ?_; clear hK) | (clear hK; clear hK; refine hK _ ?_; clear hK) | (clear hK; clear hK; clear hK; refine hK _ ?_; clear hK) | (clear hK; clear hK; clear hK; clear hK; refine hK _ ?_; clear hK) | (refine wSeq fun K hK => ?_) | (refine wReg ?_; simp only [List.map_cons, List.map_nil, strip]) | (refine wDrwQ rfl (by kernel_rfl) ?_; simp only [List.map_cons, List.map_nil, strip]) | (refine wDrwI ?_; simp only [List.map_cons, List.map_nil, strip]) | (refine wDrw (by kernel_rfl) ?_; simp only [List.map_cons, List.map_nil, strip]) | (refine wIs fun K hK => ?_; simp [k1, k3', hw]) | (refine wIn ?_; refine And.intro (by kernel_rfl) ?_; try simp only [thenA_n]) | (refine wOs fun K hK => ?_; simp [k1, k3', hw]) | (refine wQs fun K hK => ?_; simp [k1, k3', hw]) | (refine CallK_plain ?_; simp [k1, k3', hw]) | (refine CallQ_plain ?_; simp [k1, k3', hw]) | (refine wRet ?_; try simp) | (refine wCond ?_; simp [k1, k3', hw]) | (refine wBlock ?_) | (refine wScope ?_) | (refine wLabel ?_; try simp only [thenA_n]) | (refine wExit ?_; try simp) | (refine wSkip ?_; try simp) | (refine wOn ?_; try simp only [thenA_n]) | (refine wQn ?_; try simp only [thenA_n]) | (refine CallE.pure (c) rfl ?_) | (refine CallE.lent (c) rfl ?_) | (refine CallF.pure (c) rfl ?_) | (refine CallF.lent (c) rfl ?_) | (refine CallE.own (c) ?_) | (refine CallE.pure (c1) rfl ?_) | (refine CallE.lent (c1) rfl ?_) | (refine CallF.pure (c1) rfl ?_) | (refine CallF.lent (c1) rfl ?_) | (refine CallE.own (c1) ?_) | (refine CallE.pure (c2) rfl ?_) | (refine CallE.lent (c2) rfl ?_) | (refine CallF.pure (c2) rfl ?_) | (refine CallF.lent (c2) rfl ?_) | (refine CallE.own (c2) ?_) | (refine CallE.pure (c3) rfl ?_) | (refine CallE.lent (c3) rfl ?_) | (refine CallF.pure (c3) rfl ?_) | (refine CallF.lent (c3) rfl ?_) | (refine CallE.own (c3) ?_) | (refine CallE.pure (awake03) rfl ?_) | (refine CallE.lent (awake03) rfl ?_) | (refine CallF.pure (awake03) rfl ?_) | (refine CallF.lent (awake03) rfl ?_) | (refine CallE.own (awake03) ?_)
          all_goals apply hr
          all_goals simp [Tryd.f7]
        · have hab : (a == b) = false := by simpa using fun h => h2 (k2.1 h)
          have hnm : (n == m) = false := by simpa using h2
          clear f1 f2 f3 f4
          by_cases h1 : n < m
          all_goals simp only [h1, decide_true, decide_false] at k1
          all_goals refine wBody Tryd.tab Tryd.mixed Tryd.func7 rfl rfl Tryd.ntmps7 (by simp) (by simp) fun Q hr hn => ?_
          all_goals repeat' first | (refine hK _ ?_; clear hK) | (refine hK _ _ ?_; clear hK) | (clear hK; refine hK _ ?_; clear hK) | (clear hK; clear hK; refine hK _ ?_; clear hK) | (clear hK; clear hK; clear hK; refine hK _ ?_; clear hK) | (clear hK; clear hK; clear hK; clear hK; refine hK _ ?_; clear hK) | (refine wSeq fun K hK => ?_) | (refine wReg ?_; simp only [List.map_cons, List.map_nil, strip]) | (refine wDrwQ rfl (by kernel_rfl) ?_; simp only [List.map_cons, List.map_nil, strip]) | (refine wDrwI ?_; simp only [List.map_cons, List.map_nil, strip]) | (refine wDrw (by kernel_rfl) ?_; simp only [List.map_cons, List.map_nil, strip]) | (refine wIs fun K hK => ?_; simp [k1, k3', h1, h2, hab, hnm, hw]) | (refine wIn ?_; refine And.intro (by kernel_rfl) ?_; try simp only [thenA_n]) | (refine wOs fun K hK => ?_; simp [k1, k3', h1, h2, hab, hnm, hw]) | (refine wQs fun K hK => ?_; simp [k1, k3', h1, h2, hab, hnm, hw]) | (refine CallK_plain ?_; simp [k1, k3', h1, h2, hab, hnm, hw]) | (refine CallQ_plain ?_; simp [k1, k3', h1, h2, hab, hnm, hw]) | (refine wRet ?_; try simp) | (refine wCond ?_; simp [k1, k3', h1, h2, hab, hnm, hw]) | (refine wBlock ?_) | (refine wScope ?_) | (refine wLabel ?_; try simp only [thenA_n]) | (refine wExit ?_; try simp) | (refine wSkip ?_; try simp) | (refine wOn ?_; try simp only [thenA_n]) | (refine wQn ?_; try simp only [thenA_n]) | (refine CallE.pure (c) rfl ?_) | (refine CallE.lent (c) rfl ?_) | (refine CallF.pure (c) rfl ?_) | (refine CallF.lent (c) rfl ?_) | (refine CallE.own (c) ?_) | (refine CallE.pure (c1) rfl ?_) | (refine CallE.lent (c1) rfl ?_) | (refine CallF.pure (c1) rfl ?_) | (refine CallF.lent (c1) rfl ?_) | (refine CallE.own (c1) ?_) | (refine CallE.pure (c2) rfl ?_) | (refine CallE.lent (c2) rfl ?_) | (refine CallF.pure (c2) rfl ?_) | (refine CallF.lent (c2) rfl ?_) | (refine CallE.own (c2) ?_) | (refine CallE.pure (c3) rfl ?_) | (refine CallE.lent (c3) rfl ?_) | (refine CallF.pure (c3) rfl ?_) | (refine CallF.lent (c3) rfl ?_) | (refine CallE.own (c3) ?_) | (refine CallE.pure (awake03) rfl ?_) | (refine CallE.lent (awake03) rfl ?_) | (refine CallF.pure (awake03) rfl ?_) | (refine CallF.lent (awake03) rfl ?_) | (refine CallE.own (awake03) ?_)
          all_goals apply hr
          all_goals simp [Tryd.f7]
      · obtain rfl := f2 hf
        refine wBody Tryd.tab Tryd.mixed Tryd.func7 rfl rfl Tryd.ntmps7 (by simp) (by simp) fun Q hr hn => ?_
        repeat' first | (refine hK _ ?_; clear hK) | (refine hK _ _ ?_; clear hK) | (clear hK; refine hK _ ?_; clear hK) | (clear hK; clear hK; refine hK _ ?_; clear hK) | (clear hK; clear hK; clear hK; refine hK _ ?_; clear hK) | (clear hK; clear hK; clear hK; clear hK; refine hK _ ?_; clear hK) | (refine wSeq fun K hK => ?_) | (refine wReg ?_; simp only [List.map_cons, List.map_nil, strip]) | (refine wDrwQ rfl (by kernel_rfl) ?_; simp only [List.map_cons, List.map_nil, strip]) | (refine wDrwI ?_; simp only [List.map_cons, List.map_nil, strip]) | (refine wDrw (by kernel_rfl) ?_; simp only [List.map_cons, List.map_nil, strip]) | (refine wIs fun K hK => ?_; simp [hf]) | (refine wIn ?_; refine And.intro (by kernel_rfl) ?_; try simp only [thenA_n]) | (refine wOs fun K hK => ?_; simp [hf]) | (refine wQs fun K hK => ?_; simp [hf]) | (refine CallK_plain ?_; simp [hf]) | (refine CallQ_plain ?_; simp [hf]) | (refine wRet ?_; try simp) | (refine wCond ?_; simp [hf]) | (refine wBlock ?_) | (refine wScope ?_) | (refine wLabel ?_; try simp only [thenA_n]) | (refine wExit ?_; try simp) | (refine wSkip ?_; try simp) | (refine wOn ?_; try simp only [thenA_n]) | (refine wQn ?_; try simp only [thenA_n]) | (refine CallE.pure (c) rfl ?_) | (refine CallE.lent (c) rfl ?_) | (refine CallF.pure (c) rfl ?_) | (refine CallF.lent (c) rfl ?_) | (refine CallE.own (c) ?_) | (refine CallE.pure (c1) rfl ?_) | (refine CallE.lent (c1) rfl ?_) | (refine CallF.pure (c1) rfl ?_) | (refine CallF.lent (c1) rfl ?_) | (refine CallE.own (c1) ?_) | (refine CallE.pure (c2) rfl ?_) | (refine CallE.lent (c2) rfl ?_) | (refine CallF.pure (c2) rfl ?_) | (refine CallF.lent (c2) rfl ?_) | (refine CallE.own (c2) ?_) | (refine CallE.pure (awake03) rfl ?_) | (refine CallE.lent (awake03) rfl ?_) | (refine CallF.pure (awake03) rfl ?_) | (refine CallF.lent (awake03) rfl ?_) | (refine CallE.own (awake03) ?_)
        all_goals apply hr
        all_goals simp [Tryd.f7]
    · obtain rfl := f1 he
      by_cases hf : f = 0
      · subst hf
        refine wBody Tryd.tab Tryd.mixed Tryd.func7 rfl rfl Tryd.ntmps7 (by simp) (by simp) fun Q hr hn => ?_
        repeat' first | (refine hK _ ?_; clear hK) | (refine hK _ _ ?_; clear hK) | (clear hK; refine hK _ ?_; clear hK) | (clear hK; clear hK; refine hK _ ?_; clear hK) | (clear hK; clear hK; clear hK; refine hK _ ?_; clear hK) | (clear hK; clear hK; clear hK; clear hK; refine hK _ ?_; clear hK) | (refine wSeq fun K hK => ?_) | (refine wReg ?_; simp only [List.map_cons, List.map_nil, strip]) | (refine wDrwQ rfl (by kernel_rfl) ?_; simp only [List.map_cons, List.map_nil, strip]) | (refine wDrwI ?_; simp only [List.map_cons, List.map_nil, strip]) | (refine wDrw (by kernel_rfl) ?_; simp only [List.map_cons, List.map_nil, strip]) | (refine wIs fun K hK => ?_; simp [he]) | (refine wIn ?_; refine And.intro (by kernel_rfl) ?_; try simp only [thenA_n]) | (refine wOs fun K hK => ?_; simp [he]) | (refine wQs fun K hK => ?_; simp [he]) | (refine CallK_plain ?_; simp [he]) | (refine CallQ_plain ?_; simp [he]) | (refine wRet ?_; try simp) | (refine wCond ?_; simp [he]) | (refine wBlock ?_) | (refine wScope ?_) | (refine wLabel ?_; try simp only [thenA_n]) | (refine wExit ?_; try simp) | (refine wSkip ?_; try simp) | (refine wOn ?_; try simp only [thenA_n]) | (refine wQn ?_; try simp only [thenA_n]) | (refine CallE.pure (c) rfl ?_) | (refine CallE.lent (c) rfl ?_) | (refine CallF.pure (c) rfl ?_) | (refine CallF.lent (c) rfl ?_) | (refine CallE.own (c) ?_) | (refine CallE.pure (c1) rfl ?_) | (refine CallE.lent (c1) rfl ?_) | (refine CallF.pure (c1) rfl ?_) | (refine CallF.lent (c1) rfl ?_) | (refine CallE.own (c1) ?_) | (refine CallE.pure (c2) rfl ?_) | (refine CallE.lent (c2) rfl ?_) | (refine CallF.pure (c2) rfl ?_) | (refine CallF.lent (c2) rfl ?_) | (refine CallE.own (c2) ?_) | (refine CallE.pure (awake03) rfl ?_) | (refine CallE.lent (awake03) rfl ?_) | (refine CallF.pure (awake03) rfl ?_) | (refine CallF.lent (awake03) rfl ?_) | (refine CallE.own (awake03) ?_)
        all_goals apply hr
        all_goals simp [Tryd.f7]
      · obtain rfl := f2 hf
        refine wBody Tryd.tab Tryd.mixed Tryd.func7 rfl rfl Tryd.ntmps7 (by simp) (by simp) fun Q hr hn => ?_
        repeat' first | (refine hK _ ?_; clear hK) | (refine hK _ _ ?_; clear hK) | (clear hK; refine hK _ ?_; clear hK) | (clear hK; clear hK; refine hK _ ?_; clear hK) | (clear hK; clear hK; clear hK; refine hK _ ?_; clear hK) | (clear hK; clear hK; clear hK; clear hK; refine hK _ ?_; clear hK) | (refine wSeq fun K hK => ?_) | (refine wReg ?_; simp only [List.map_cons, List.map_nil, strip]) | (refine wDrwQ rfl (by kernel_rfl) ?_; simp only [List.map_cons, List.map_nil, strip]) | (refine wDrwI ?_; simp only [List.map_cons, List.map_nil, strip]) | (refine wDrw (by kernel_rfl) ?_; simp only [List.map_cons, List.map_nil, strip]) | (refine wIs fun K hK => ?_; simp [he, hf]) | (refine wIn ?_; refine And.intro (by kernel_rfl) ?_; try simp only [thenA_n]) | (refine wOs fun K hK => ?_; simp [he, hf]) | (refine wQs fun K hK => ?_; simp [he, hf]) | (refine CallK_plain ?_; simp [he, hf]) | (refine CallQ_plain ?_; simp [he, hf]) | (refine wRet ?_; try simp) | (refine wCond ?_; simp [he, hf]) | (refine wBlock ?_) | (refine wScope ?_) | (refine wLabel ?_; try simp only [thenA_n]) | (refine wExit ?_; try simp) | (refine wSkip ?_; try simp) | (refine wOn ?_; try simp only [thenA_n]) | (refine wQn ?_; try simp only [thenA_n]) | (refine CallE.pure (c) rfl ?_) | (refine CallE.lent (c) rfl ?_) | (refine CallF.pure (c) rfl ?_) | (refine CallF.lent (c) rfl ?_) | (refine CallE.own (c) ?_) | (refine CallE.pure (c1) rfl ?_) | (refine CallE.lent (c1) rfl ?_) | (refine CallF.pure (c1) rfl ?_) | (refine CallF.lent (c1) rfl ?_) | (refine CallE.own (c1) ?_) | (refine CallE.pure (c2) rfl ?_) | (refine CallE.lent (c2) rfl ?_) | (refine CallF.pure (c2) rfl ?_) | (refine CallF.lent (c2) rfl ?_) | (refine CallE.own (c2) ?_) | (refine CallE.pure (awake03) rfl ?_) | (refine CallE.lent (awake03) rfl ?_) | (refine CallF.pure (awake03) rfl ?_) | (refine CallF.lent (awake03) rfl ?_) | (refine CallE.own (awake03) ?_)
        all_goals apply hr
        all_goals simp [Tryd.f7]
  · rw [hlg] at c
    refine wBody Tryd.tab Tryd.mixed Tryd.func7 rfl rfl Tryd.ntmps7 (by simp) (by simp) fun Q hr hn => ?_
    repeat' first | (refine hK _ ?_; clear hK) | (refine hK _ _ ?_; clear hK) | (clear hK; refine hK _ ?_; clear hK) | (clear hK; clear hK; refine hK _ ?_; clear hK) | (clear hK; clear hK; clear hK; refine hK _ ?_; clear hK) | (clear hK; clear hK; clear hK; clear hK; refine hK _ ?_; clear hK) | (refine wSeq fun K hK => ?_) | (refine wReg ?_; simp only [List.map_cons, List.map_nil, strip]) | (refine wDrwQ rfl (by kernel_rfl) ?_; simp only [List.map_cons, List.map_nil, strip]) | (refine wDrwI ?_; simp only [List.map_cons, List.map_nil, strip]) | (refine wDrw (by kernel_rfl) ?_; simp only [List.map_cons, List.map_nil, strip]) | (refine wIs fun K hK => ?_; simp) | (refine wIn ?_; refine And.intro (by kernel_rfl) ?_; try simp only [thenA_n]) | (refine wOs fun K hK => ?_; simp) | (refine wQs fun K hK => ?_; simp) | (refine CallK_plain ?_; simp) | (refine CallQ_plain ?_; simp) | (refine wRet ?_; try simp) | (refine wCond ?_; simp) | (refine wBlock ?_) | (refine wScope ?_) | (refine wLabel ?_; try simp only [thenA_n]) | (refine wExit ?_; try simp) | (refine wSkip ?_; try simp) | (refine wOn ?_; try simp only [thenA_n]) | (refine wQn ?_; try simp only [thenA_n]) | (refine CallE.pure (c) rfl ?_) | (refine CallE.lent (c) rfl ?_) | (refine CallF.pure (c) rfl ?_) | (refine CallF.lent (c) rfl ?_) | (refine CallE.own (c) ?_) | (refine CallE.pure (awake03) rfl ?_) | (refine CallE.lent (awake03) rfl ?_) | (refine CallF.pure (awake03) rfl ?_) | (refine CallF.lent (awake03) rfl ?_) | (refine CallE.own (awake03) ?_)
    all_goals apply hr
    all_goals simp [Tryd.f7]
set_option maxHeartbeats 2000000 in
theorem pathJoins_con (p q : List UInt8) (n : Int) (hp : p.length ≤ 9223372036854775807) (hq : q.length ≤ 9223372036854775807) : ACon Tryd.prog 4 [.p (SB p), .p (SB q), .p (I n)] (.p (B true)) := by
  have c := long_con [p, q] (by simp)
  simp only [List.map_cons, List.map_nil, List.any_cons, List.any_nil, Bool.or_false] at c
  cases hlg : (lng p || lng q)
  · rw [hlg] at c
    have hq3 : q.length ≤ 3000 := by
      simp only [lng, Bool.or_eq_false_iff, decide_eq_false_iff_not] at hlg; omega
    have c1 := join_con p q hp hq3
    have c2 := join03_con p q hp hq3
    have c3 := numbered_con p n hp
    have c4 := numbered03_con p n hp
    have c5 := Below_con p q hp hq
    have c6 := Below03_con p q hp hq
    generalize jn p q = a at *
    generalize nmb p n = b at *
    generalize blw p q = d at *
    obtain ⟨a, e⟩ := a
    obtain ⟨b, f⟩ := b
    dsimp only at *
    refine wBody Tryd.tab Tryd.mixed Tryd.func4 rfl rfl Tryd.ntmps4 (by simp) (by simp) fun Q hr hn => ?_
    repeat' first | (refine hK _ ?_; clear hK) | (refine hK _ _ ?_; clear hK) | (clear hK; refine hK _ ?_; clear hK) | (clear hK; clear hK; refine hK _ ?_; clear hK) | (clear hK; clear hK; clear hK; refine hK _ ?_; clear hK) | (clear hK; clear hK; clear hK; clear hK; refine hK _ ?_; clear hK) | (refine wSeq fun K hK => ?_) | (refine wReg ?_; simp only [List.map_cons, List.map_nil, strip]) | (refine wDrwQ rfl (by kernel_rfl) ?_; simp only [List.map_cons, List.map_nil, strip]) | (refine wDrwI ?_; simp only [List.map_cons, List.map_nil, strip]) | (refine wDrw (by kernel_rfl) ?_; simp only [List.map_cons, List.map_nil, strip]) | (refine wIs fun K hK => ?_; simp) | (refine wIn ?_; refine And.intro (by kernel_rfl) ?_; try simp only [thenA_n]) | (refine wOs fun K hK => ?_; simp) | (refine wQs fun K hK => ?_; simp) | (refine CallK_plain ?_; simp) | (refine CallQ_plain ?_; simp) | (refine wRet ?_; try simp) | (refine wCond ?_; simp) | (refine wBlock ?_) | (refine wScope ?_) | (refine wLabel ?_; try simp only [thenA_n]) | (refine wExit ?_; try simp) | (refine wSkip ?_; try simp) | (refine wOn ?_; try simp only [thenA_n]) | (refine wQn ?_; try simp only [thenA_n]) | (refine CallE.pure (c) rfl ?_) | (refine CallE.lent (c) rfl ?_) | (refine CallF.pure (c) rfl ?_) | (refine CallF.lent (c) rfl ?_) | (refine CallE.own (c) ?_) | (refine CallE.pure (c1) rfl ?_) | (refine CallE.lent (c1) rfl ?_) | (refine CallF.pure (c1) rfl ?_) | (refine CallF.lent (c1) rfl ?_) | (refine CallE.own (c1) ?_) | (refine CallE.pure (c2) rfl ?_) | (refine CallE.lent (c2) rfl ?_) | (refine CallF.pure (c2) rfl ?_) | (refine CallF.lent (c2) rfl ?_) | (refine CallE.own (c2) ?_) | (refine CallE.pure (c3) rfl ?_) | (refine CallE.lent (c3) rfl ?_) | (refine CallF.pure (c3) rfl ?_) | (refine CallF.lent (c3) rfl ?_) | (refine CallE.own (c3) ?_) | (refine CallE.pure (c4) rfl ?_) | (refine CallE.lent (c4) rfl ?_) | (refine CallF.pure (c4) rfl ?_) | (refine CallF.lent (c4) rfl ?_) | (refine CallE.own (c4) ?_) | (refine CallE.pure (c5) rfl ?_) | (refine CallE.lent (c5) rfl ?_) | (refine CallF.pure (c5) rfl ?_) | (refine CallF.lent (c5) rfl ?_) | (refine CallE.own (c5) ?_) | (refine CallE.pure (c6) rfl ?_) | (refine CallE.lent (c6) rfl ?_) | (refine CallF.pure (c6) rfl ?_) | (refine CallF.lent (c6) rfl ?_) | (refine CallE.own (c6) ?_) | (refine CallE.pure (awake03) rfl ?_) | (refine CallE.lent (awake03) rfl ?_) | (refine CallF.pure (awake03) rfl ?_) | (refine CallF.lent (awake03) rfl ?_) | (refine CallE.own (awake03) ?_)
    all_goals apply hr
    all_goals simp [Tryd.f4]
  · rw [hlg] at c
    refine wBody Tryd.tab Tryd.mixed Tryd.func4 rfl rfl Tryd.ntmps4 (by simp) (by simp) fun Q hr hn => ?_
    repeat' first | (refine hK _ ?_; clear hK) | (refine hK _ _ ?_; clear hK) | (clear hK; refine hK _ ?_; clear hK) | (clear hK; clear hK; refine hK _ ?_; clear hK) | (clear hK; clear hK; clear hK; refine hK _ ?_; clear hK) | (clear hK; clear hK; clear hK; clear hK; refine hK _ ?_; clear hK) | (refine wSeq fun K hK => ?_) | (refine wReg ?_; simp only [List.map_cons, List.map_nil, strip]) | (refine wDrwQ rfl (by kernel_rfl) ?_; simp only [List.map_cons, List.map_nil, strip]) | (refine wDrwI ?_; simp only [List.map_cons, List.map_nil, strip]) | (refine wDrw (by kernel_rfl) ?_; simp only [List.map_cons, List.map_nil, strip]) | (refine wIs fun K hK => ?_; simp) | (refine wIn ?_; refine And.intro (by kernel_rfl) ?_; try simp only [thenA_n]) | (refine wOs fun K hK => ?_; simp) | (refine wQs fun K hK => ?_; simp) | (refine CallK_plain ?_; simp) | (refine CallQ_plain ?_; simp) | (refine wRet ?_; try simp) | (refine wCond ?_; simp) | (refine wBlock ?_) | (refine wScope ?_) | (refine wLabel ?_; try simp only [thenA_n]) | (refine wExit ?_; try simp) | (refine wSkip ?_; try simp) | (refine wOn ?_; try simp only [thenA_n]) | (refine wQn ?_; try simp only [thenA_n]) | (refine CallE.pure (c) rfl ?_) | (refine CallE.lent (c) rfl ?_) | (refine CallF.pure (c) rfl ?_) | (refine CallF.lent (c) rfl ?_) | (refine CallE.own (c) ?_) | (refine CallE.pure (awake03) rfl ?_) | (refine CallE.lent (awake03) rfl ?_) | (refine CallF.pure (awake03) rfl ?_) | (refine CallF.lent (awake03) rfl ?_) | (refine CallE.own (awake03) ?_)
    all_goals apply hr
    all_goals simp [Tryd.f4]
end Go.Proofs.YtpbmicfbghnmeaaDoor
