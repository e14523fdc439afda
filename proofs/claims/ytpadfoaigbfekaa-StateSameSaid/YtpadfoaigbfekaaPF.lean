/- Layer 3: joined paths: path.Join. -/
import Derived.Test.YtpadfoaigbfekaaPE
namespace Go.Proofs.Ytpadfoaigbfekaa
set_option linter.unusedSimpArgs false
set_option linter.unusedVariables false
open Go Go.Av
attribute [local simp] Try.T1 Try.T2 Try.T3 Try.T4 Try.T5 Try.T9 Try.T12 Try.T21 Try.T22 Try.T24 Try.T25 Try.T26 Try.T27 Try.T28 Try.T29 Try.T30 Try.T31 Try.T33 Try.T34 Try.T35 Try.T36 Try.T37 Try.T38 Try.T39 Try.T41 Try.T42 Try.T43 Try.T44 Try.T46 Try.T47 Try.T49 Try.T51 Try.T52 Try.T53 Try.T54 Try.T56 Try.T57 Try.T58 Try.T59 Try.T60 Try.T62 Try.T64 Try.T65 Try.T66 Try.T67 Try.T68 Try.T69 Try.T70 Try.T71 Try.T72 Try.T73 Try.T75 Try.T76 Try.T77 Try.T78 Try.T79 Try.T80 Try.T82 Try.T83 Try.T84 Try.T85 Try.T87 Try.T88 Try.T89 Try.T90 Try.T91 Try.T92 Try.T93 Try.T94 Try.T95 Try.T96 Try.T97 Try.T98 Try.T99 Try.T100 Try.T102 Try.T103 Try.T104 Try.T105 Try.T106 Try.T107 Try.T109 Try.T110 Try.T111 Try.T112 Try.T113 Try.T114 Try.T115 Try.T116 Try.T117 Try.T123 Try.T126
attribute [local irreducible] Go.Av.CallK Go.Av.CallE Go.Av.CallQ Go.Av.CallF Go.Av.CallR Go.Av.CallH Go.Av.Con

/-! ### Where the stroke is -/
def ix (l : List UInt8) : Nat := l.findIdx (· == 47)
theorem ix_le (l : List UInt8) : ix l ≤ l.length := List.findIdx_le_length
theorem indexByte_ix (l : List UInt8) : Go.Lib.indexByte l 47 = if ix l = l.length then -1 else (ix l : Int) := by
  induction l with
  | nil => rfl
  | cons a r ih =>
    unfold Go.Lib.indexByte ix
    rw [List.findIdx_cons]
    cases h : a == 47 with
    | true => simp
    | false =>
      have hix : List.findIdx (· == 47) r = ix r := rfl
      simp only [Bool.false_eq_true, if_false, cond_false, hix, List.length_cons]
      rw [ih]
      by_cases g : ix r = r.length
      · rw [if_pos g, if_pos (by simp), if_pos (by omega)]
      · rw [if_neg g, if_neg (by simp), if_neg (by omega)]
        push_cast; rfl
theorem ix_at {l : List UInt8} (h : ix l < l.length) : l[ix l] = 47 := by
  have := List.findIdx_getElem (p := (· == 47)) (xs := l) (w := h)
  exact eq_of_beq this
theorem ix_below {l : List UInt8} {k : Nat} (h : k < ix l) (hk : k < l.length) : ¬ l[k] = 47 := by
  have := List.not_of_lt_findIdx (p := (· == 47)) (xs := l) h
  simpa using this
theorem ix_lt_iff (l : List UInt8) : (ix l = l.length) ↔ (47 : UInt8) ∉ l := by
  unfold ix
  rw [List.findIdx_eq_length]
  constructor
  · intro h hm
    have := h 47 hm
    simp at this
  · intro h x hx
    rw [beq_eq_false_iff_ne]
    intro e
    exact h (e ▸ hx)
theorem g_no47 : ∀ (r c : List UInt8), (47 : UInt8) ∉ r → g c r = nm (c ++ r)
  | [], c, _ => by rw [List.append_nil]; cases c <;> rfl
  | b :: r, c, h => by
    have hb : ¬ b = 47 := fun e => h (by rw [e]; exact List.mem_cons_self)
    have hr : (47 : UInt8) ∉ r := fun e => h (List.mem_cons_of_mem _ e)
    rw [g, if_neg hb, g_no47 r (c ++ [b]) hr, List.append_assoc]; rfl
theorem nm_47 {l : List UInt8} (h : (47 : UInt8) ∈ l) : nm l = false := by
  have : l.all chr = false := by
    cases h2 : l.all chr with
    | false => rfl
    | true =>
      rw [List.all_eq_true] at h2
      have := h2 47 h
      simp [chr] at this
  rw [nm, this, Bool.and_false]
/-- What a path with one name more is, and how the call ends. -/
def jn (p n : List UInt8) : List UInt8 × Int := if chk p = 0 then (if nm n = true then (if 64 < (bel p ++ n).length then ([], 5) else (bel p ++ n, 0)) else ([], 1)) else ([], chk p)
theorem g_last : ∀ (r c : List UInt8), g c r = true → (r = [] ∨ ∃ s b, r = s ++ [b] ∧ ¬ b = 47)
  | [], _, _ => .inl rfl
  | b :: r, c, h => by
    right
    rw [g] at h
    by_cases hb : b = 47
    · rw [if_pos hb, Bool.and_eq_true] at h
      rcases g_last r [] h.2 with rfl | ⟨s, x, rfl, hx⟩
      · have := h.2
        simp [g, nm] at this
      · exact ⟨b :: s, x, rfl, hx⟩
    · rw [if_neg hb] at h
      rcases g_last r _ h with rfl | ⟨s, x, rfl, hx⟩
      · exact ⟨[], b, rfl, hb⟩
      · exact ⟨b :: s, x, rfl, hx⟩
theorem bel_eq {p : List UInt8} (h : chk p = 0) (h1 : ¬ p = [47]) : bel p = p ++ [47] := by
  have hn : nmd p = true := by
    unfold chk at h
    split at h
    · simp at h
    split at h
    · rename_i h2
      exact h2.resolve_left h1
    · simp at h
  have hs : hsx p = false := by
    rcases chk_spec h with h2 | ⟨-, R, rfl, hR⟩
    · exact absurd h2 h1
    · have hg : g [] R = true := hn
      rcases g_last R [] hg with h2 | ⟨s, b, rfl, hb⟩
      · exact absurd h2 hR
      · have e : (47 :: (s ++ [b])).drop ((47 :: (s ++ [b])).length - 1) = [b] := by
          have : (47 :: (s ++ [b])) = (47 :: s) ++ [b] := rfl
          rw [this, List.length_append]
          simp only [List.length_cons, List.length_nil, Nat.zero_add, Nat.add_sub_cancel]
          exact List.drop_left' rfl
        rw [hsx, e]
        simpa using hb
  unfold bel trm
  rw [if_neg (by rw [hs]; simp)]
theorem join03_con (p n : List UInt8) (hp : p.length ≤ 9223372036854775807) (hn : n.length ≤ 3000) : ACon Try.prog 30 [.p (SB p), .p (SB n)] (.tup [.p (SB (jn p n).1), .p (I (jn p n).2)]) := by
  have c1 := check03_con p hp
  have c2 := isName03_con n (by omega)
  unfold jn
  by_cases h1 : chk p = 0
  · rw [if_pos h1]
    rw [h1] at c1
    have hpl := chk_len h1
    cases h2 : nm n
    · rw [h2] at c2
      simp only [Bool.false_eq_true, if_false]
      refine wBody Try.tab Try.mixed Try.func30 rfl rfl Try.ntmps30 (by simp) (by simp) fun Q hr hn => ?_
      repeat' first | (refine hK _ ?_; clear hK) | (refine hK _ _ ?_; clear hK) | (clear hK; refine hK _ ?_; clear hK) | (clear hK; clear hK; refine hK _ ?_; clear hK) | (clear hK; clear hK; clear hK; refine hK _ ?_; clear hK) | (clear hK; clear hK; clear hK; clear hK; refine hK _ ?_; clear hK) | (refine wSeq fun K hK => ?_) | ((first | refine wReg ?_ | refine wDrwQ rfl (by kernel_rfl) ?_ | refine wDrwI ?_ | refine wDrw (by kernel_rfl) ?_); simp only [List.map_cons, List.map_nil, strip]) | ((first | refine wIs fun K hK => ?_ | refine wOs fun K hK => ?_ | refine wQs fun K hK => ?_ | refine CallK_plain ?_ | refine CallQ_plain ?_ | refine CallR_plain ?_ | refine wCond ?_); simp) | (refine wIn ?_; refine And.intro (by kernel_rfl) ?_; try simp only [thenA_n]) | (first | refine wBlock ?_ | refine wScope ?_) | ((first | refine wRet ?_ | refine wExit ?_ | refine wSkip ?_); try simp) | ((first | refine wLabel ?_ | refine wOn ?_ | refine wQn ?_); try simp only [thenA_n]) | (refine CallE.pure (c1) rfl ?_) | (refine CallE.lent (c1) rfl ?_) | (refine CallF.pure (c1) rfl ?_) | (refine CallF.lent (c1) rfl ?_) | (refine CallE.own (c1) ?_) | (refine CallH.pure (c1) rfl ?_) | (refine CallH.lent (c1) rfl ?_) | (refine CallH.own (c1) ?_) | (refine CallE.pure (c2) rfl ?_) | (refine CallE.lent (c2) rfl ?_) | (refine CallF.pure (c2) rfl ?_) | (refine CallF.lent (c2) rfl ?_) | (refine CallE.own (c2) ?_) | (refine CallH.pure (c2) rfl ?_) | (refine CallH.lent (c2) rfl ?_) | (refine CallH.own (c2) ?_)
      all_goals apply hr
      all_goals simp [Try.f30]
    · rw [h2] at c2
      simp only [if_true]
      have s1 : p.length + 1 ≤ 9223372036854775807 := by omega
      have s2 : p.length + 1 + n.length ≤ 9223372036854775807 := by omega
      have s2' : p.length + (1 + n.length) ≤ 9223372036854775807 := by omega
      have s2'' : p.length + (n.length + 1) ≤ 9223372036854775807 := by omega
      by_cases h4 : p = [47]
      · subst h4
        have hb : bel [47] = [47] := rfl
        have s3 : 1 + n.length ≤ 9223372036854775807 := by omega
        have s3' : 1 + 1 + n.length ≤ 9223372036854775807 := by omega
        have s3'' : 2 + n.length ≤ 9223372036854775807 := by omega
        rw [hb]
        by_cases h3 : 64 < n.length + 1
        · have h3' : (64 : Int) < (n.length : Int) + 1 := by omega
          rw [if_pos (by simpa using h3)]
          refine wBody Try.tab Try.mixed Try.func30 rfl rfl Try.ntmps30 (by simp) (by simp) fun Q hr hn => ?_
          repeat' first | (refine hK _ ?_; clear hK) | (refine hK _ _ ?_; clear hK) | (clear hK; refine hK _ ?_; clear hK) | (clear hK; clear hK; refine hK _ ?_; clear hK) | (clear hK; clear hK; clear hK; refine hK _ ?_; clear hK) | (clear hK; clear hK; clear hK; clear hK; refine hK _ ?_; clear hK) | (refine wSeq fun K hK => ?_) | ((first | refine wReg ?_ | refine wDrwQ rfl (by kernel_rfl) ?_ | refine wDrwI ?_ | refine wDrw (by kernel_rfl) ?_); simp only [List.map_cons, List.map_nil, strip]) | ((first | refine wIs fun K hK => ?_ | refine wOs fun K hK => ?_ | refine wQs fun K hK => ?_ | refine CallK_plain ?_ | refine CallQ_plain ?_ | refine CallR_plain ?_ | refine wCond ?_); simp [s3, s3', s3'', h3, h3']) | (refine wIn ?_; refine And.intro (by kernel_rfl) ?_; try simp only [thenA_n]) | (first | refine wBlock ?_ | refine wScope ?_) | ((first | refine wRet ?_ | refine wExit ?_ | refine wSkip ?_); try simp) | ((first | refine wLabel ?_ | refine wOn ?_ | refine wQn ?_); try simp only [thenA_n]) | (refine CallE.pure (c1) rfl ?_) | (refine CallE.lent (c1) rfl ?_) | (refine CallF.pure (c1) rfl ?_) | (refine CallF.lent (c1) rfl ?_) | (refine CallE.own (c1) ?_) | (refine CallH.pure (c1) rfl ?_) | (refine CallH.lent (c1) rfl ?_) | (refine CallH.own (c1) ?_) | (refine CallE.pure (c2) rfl ?_) | (refine CallE.lent (c2) rfl ?_) | (refine CallF.pure (c2) rfl ?_) | (refine CallF.lent (c2) rfl ?_) | (refine CallE.own (c2) ?_) | (refine CallH.pure (c2) rfl ?_) | (refine CallH.lent (c2) rfl ?_) | (refine CallH.own (c2) ?_)
          all_goals apply hr
          all_goals simp [Try.f30]
        · have h3' : ¬ (64 : Int) < (n.length : Int) + 1 := by omega
          rw [if_neg (by simpa using h3)]
          refine wBody Try.tab Try.mixed Try.func30 rfl rfl Try.ntmps30 (by simp) (by simp) fun Q hr hn => ?_
          repeat' first | (refine hK _ ?_; clear hK) | (refine hK _ _ ?_; clear hK) | (clear hK; refine hK _ ?_; clear hK) | (clear hK; clear hK; refine hK _ ?_; clear hK) | (clear hK; clear hK; clear hK; refine hK _ ?_; clear hK) | (clear hK; clear hK; clear hK; clear hK; refine hK _ ?_; clear hK) | (refine wSeq fun K hK => ?_) | ((first | refine wReg ?_ | refine wDrwQ rfl (by kernel_rfl) ?_ | refine wDrwI ?_ | refine wDrw (by kernel_rfl) ?_); simp only [List.map_cons, List.map_nil, strip]) | ((first | refine wIs fun K hK => ?_ | refine wOs fun K hK => ?_ | refine wQs fun K hK => ?_ | refine CallK_plain ?_ | refine CallQ_plain ?_ | refine CallR_plain ?_ | refine wCond ?_); simp [s3, s3', s3'', h3, h3']) | (refine wIn ?_; refine And.intro (by kernel_rfl) ?_; try simp only [thenA_n]) | (first | refine wBlock ?_ | refine wScope ?_) | ((first | refine wRet ?_ | refine wExit ?_ | refine wSkip ?_); try simp) | ((first | refine wLabel ?_ | refine wOn ?_ | refine wQn ?_); try simp only [thenA_n]) | (refine CallE.pure (c1) rfl ?_) | (refine CallE.lent (c1) rfl ?_) | (refine CallF.pure (c1) rfl ?_) | (refine CallF.lent (c1) rfl ?_) | (refine CallE.own (c1) ?_) | (refine CallH.pure (c1) rfl ?_) | (refine CallH.lent (c1) rfl ?_) | (refine CallH.own (c1) ?_) | (refine CallE.pure (c2) rfl ?_) | (refine CallE.lent (c2) rfl ?_) | (refine CallF.pure (c2) rfl ?_) | (refine CallF.lent (c2) rfl ?_) | (refine CallE.own (c2) ?_) | (refine CallH.pure (c2) rfl ?_) | (refine CallH.lent (c2) rfl ?_) | (refine CallH.own (c2) ?_)
          all_goals apply hr
          all_goals simp [Try.f30]
      · rw [bel_eq h1 h4]
        by_cases h3 : 64 < p.length + (1 + n.length)
        · have h3' : (64 : Int) < (p.length : Int) + ((n.length : Int) + 1) := by omega
          have h3'' : (64 : Int) < (p.length : Int) + 1 + (n.length : Int) := by omega
          rw [if_pos (by simp; omega)]
          refine wBody Try.tab Try.mixed Try.func30 rfl rfl Try.ntmps30 (by simp) (by simp) fun Q hr hn => ?_
          repeat' first | (refine hK _ ?_; clear hK) | (refine hK _ _ ?_; clear hK) | (clear hK; refine hK _ ?_; clear hK) | (clear hK; clear hK; refine hK _ ?_; clear hK) | (clear hK; clear hK; clear hK; refine hK _ ?_; clear hK) | (clear hK; clear hK; clear hK; clear hK; refine hK _ ?_; clear hK) | (refine wSeq fun K hK => ?_) | ((first | refine wReg ?_ | refine wDrwQ rfl (by kernel_rfl) ?_ | refine wDrwI ?_ | refine wDrw (by kernel_rfl) ?_); simp only [List.map_cons, List.map_nil, strip]) | ((first | refine wIs fun K hK => ?_ | refine wOs fun K hK => ?_ | refine wQs fun K hK => ?_ | refine CallK_plain ?_ | refine CallQ_plain ?_ | refine CallR_plain ?_ | refine wCond ?_); simp [h4, s1, s2, s2', s2'', h3, h3', h3'']) | (refine wIn ?_; refine And.intro (by kernel_rfl) ?_; try simp only [thenA_n]) | (first | refine wBlock ?_ | refine wScope ?_) | ((first | refine wRet ?_ | refine wExit ?_ | refine wSkip ?_); try simp) | ((first | refine wLabel ?_ | refine wOn ?_ | refine wQn ?_); try simp only [thenA_n]) | (refine CallE.pure (c1) rfl ?_) | (refine CallE.lent (c1) rfl ?_) | (refine CallF.pure (c1) rfl ?_) | (refine CallF.lent (c1) rfl ?_) | (refine CallE.own (c1) ?_) | (refine CallH.pure (c1) rfl ?_) | (refine CallH.lent (c1) rfl ?_) | (refine CallH.own (c1) ?_) | (refine CallE.pure (c2) rfl ?_) | (refine CallE.lent (c2) rfl ?_) | (refine CallF.pure (c2) rfl ?_) | (refine CallF.lent (c2) rfl ?_) | (refine CallE.own (c2) ?_) | (refine CallH.pure (c2) rfl ?_) | (refine CallH.lent (c2) rfl ?_) | (refine CallH.own (c2) ?_)
          all_goals apply hr
          all_goals simp [Try.f30]
        · have h3' : ¬ (64 : Int) < (p.length : Int) + ((n.length : Int) + 1) := by omega
          have h3'' : ¬ (64 : Int) < (p.length : Int) + 1 + (n.length : Int) := by omega
          rw [if_neg (by simp; omega)]
          refine wBody Try.tab Try.mixed Try.func30 rfl rfl Try.ntmps30 (by simp) (by simp) fun Q hr hn => ?_
          repeat' first | (refine hK _ ?_; clear hK) | (refine hK _ _ ?_; clear hK) | (clear hK; refine hK _ ?_; clear hK) | (clear hK; clear hK; refine hK _ ?_; clear hK) | (clear hK; clear hK; clear hK; refine hK _ ?_; clear hK) | (clear hK; clear hK; clear hK; clear hK; refine hK _ ?_; clear hK) | (refine wSeq fun K hK => ?_) | ((first | refine wReg ?_ | refine wDrwQ rfl (by kernel_rfl) ?_ | refine wDrwI ?_ | refine wDrw (by kernel_rfl) ?_); simp only [List.map_cons, List.map_nil, strip]) | ((first | refine wIs fun K hK => ?_ | refine wOs fun K hK => ?_ | refine wQs fun K hK => ?_ | refine CallK_plain ?_ | refine CallQ_plain ?_ | refine CallR_plain ?_ | refine wCond ?_); simp [h4, s1, s2, s2', s2'', h3, h3', h3'']) | (refine wIn ?_; refine And.intro (by kernel_rfl) ?_; try simp only [thenA_n]) | (first | refine wBlock ?_ | refine wScope ?_) | ((first | refine wRet ?_ | refine wExit ?_ | refine wSkip ?_); try simp) | ((first | refine wLabel ?_ | refine wOn ?_ | refine wQn ?_); try simp only [thenA_n]) | (refine CallE.pure (c1) rfl ?_) | (refine CallE.lent (c1) rfl ?_) | (refine CallF.pure (c1) rfl ?_) | (refine CallF.lent (c1) rfl ?_) | (refine CallE.own (c1) ?_) | (refine CallH.pure (c1) rfl ?_) | (refine CallH.lent (c1) rfl ?_) | (refine CallH.own (c1) ?_) | (refine CallE.pure (c2) rfl ?_) | (refine CallE.lent (c2) rfl ?_) | (refine CallF.pure (c2) rfl ?_) | (refine CallF.lent (c2) rfl ?_) | (refine CallE.own (c2) ?_) | (refine CallH.pure (c2) rfl ?_) | (refine CallH.lent (c2) rfl ?_) | (refine CallH.own (c2) ?_)
          all_goals apply hr
          all_goals simp [Try.f30]
  · rw [if_neg h1]
    generalize chk p = e at c1 h1
    refine wBody Try.tab Try.mixed Try.func30 rfl rfl Try.ntmps30 (by simp) (by simp) fun Q hr hn => ?_
    repeat' first | (refine hK _ ?_; clear hK) | (refine hK _ _ ?_; clear hK) | (clear hK; refine hK _ ?_; clear hK) | (clear hK; clear hK; refine hK _ ?_; clear hK) | (clear hK; clear hK; clear hK; refine hK _ ?_; clear hK) | (clear hK; clear hK; clear hK; clear hK; refine hK _ ?_; clear hK) | (refine wSeq fun K hK => ?_) | ((first | refine wReg ?_ | refine wDrwQ rfl (by kernel_rfl) ?_ | refine wDrwI ?_ | refine wDrw (by kernel_rfl) ?_); simp only [List.map_cons, List.map_nil, strip]) | ((first | refine wIs fun K hK => ?_ | refine wOs fun K hK => ?_ | refine wQs fun K hK => ?_ | refine CallK_plain ?_ | refine CallQ_plain ?_ | refine CallR_plain ?_ | refine wCond ?_); simp [h1]) | (refine wIn ?_; refine And.intro (by kernel_rfl) ?_; try simp only [thenA_n]) | (first | refine wBlock ?_ | refine wScope ?_) | ((first | refine wRet ?_ | refine wExit ?_ | refine wSkip ?_); try simp) | ((first | refine wLabel ?_ | refine wOn ?_ | refine wQn ?_); try simp only [thenA_n]) | (refine CallE.pure (c1) rfl ?_) | (refine CallE.lent (c1) rfl ?_) | (refine CallF.pure (c1) rfl ?_) | (refine CallF.lent (c1) rfl ?_) | (refine CallE.own (c1) ?_) | (refine CallH.pure (c1) rfl ?_) | (refine CallH.lent (c1) rfl ?_) | (refine CallH.own (c1) ?_)
    all_goals apply hr
    all_goals simp [Try.f30]
end Go.Proofs.Ytpadfoaigbfekaa
