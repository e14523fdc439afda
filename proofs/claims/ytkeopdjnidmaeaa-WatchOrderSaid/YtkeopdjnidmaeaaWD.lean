/- Watches: their order; Add. -/
import Derived.Test.YtkeopdjnidmaeaaWAw
import Derived.Test.YtkeopdjnidmaeaaWX
import Derived.Test.YtkeopdjnidmaeaaAvTup
namespace Go.Proofs.Ytkeopdjnidmaeaa
set_option linter.unusedSimpArgs false
set_option linter.unusedVariables false
open Go Go.Av
attribute [local simp] Try.T1 Try.T2 Try.T3 Try.T4 Try.T5 Try.T9 Try.T12 Try.T21 Try.T22 Try.T23 Try.T24 Try.T26 Try.T27 Try.T29 Try.T31 Try.T32 Try.T33 Try.T34 Try.T35 Try.T37 Try.T39 Try.T41 Try.T42 Try.T43 Try.T44 Try.T46 Try.T47 Try.T48 Try.T50 Try.T51 Try.T52 Try.T53 Try.T54 Try.T55 Try.T56 Try.T57 Try.T59 Try.T60 Try.T61 Try.T62 Try.T63 Try.T64 Try.T65 Try.T66 Try.T67 Try.T69 Try.T70 Try.T71 Try.T72 Try.T73 Try.T74 Try.T75 Try.T77 Try.T78 Try.T79 Try.T85 Try.T88 Try.T95
attribute [local irreducible] Go.Av.CallK Go.Av.CallE Go.Av.CallQ Go.Av.CallF Go.Av.CallR Go.Av.CallH Go.Av.Con

theorem lss_eq : ∀ (x y : List UInt8), lss x y = decide (x < y)
  | [], [] => by simp [lss, Op.bytesLess]
  | [], y :: ys => by simp [lss, Op.bytesLess]
  | x :: xs, [] => by simp [lss, Op.bytesLess]
  | x :: xs, y :: ys => by
    have ih := lss_eq xs ys
    unfold lss at ih ⊢
    rw [Op.bytesLess, ih]
    simp only [List.cons_lt_cons_iff]
    by_cases h1 : x < y <;> by_cases h2 : x = y <;> by_cases h3 : xs < ys <;> simp [h1, h2, h3]
theorem lt_irr : ∀ (x : List UInt8), ¬ x < x
  | [], h => by simp at h
  | a :: x, h => by
    rw [List.cons_lt_cons_iff] at h
    rcases h with h | ⟨-, h⟩
    · exact UInt8.lt_irrefl a h
    · exact lt_irr x h
theorem lt_tr : ∀ {x y z : List UInt8}, x < y → y < z → x < z
  | _, [], _, h, _ => by simp at h
  | _, _ :: _, [], _, h => by simp at h
  | [], b :: y, c :: z, _, _ => by simp
  | a :: x, b :: y, c :: z, h, h' => by
    rw [List.cons_lt_cons_iff] at h h' ⊢
    rcases h with h | ⟨rfl, h⟩
    · rcases h' with h' | ⟨rfl, h'⟩
      · exact .inl (UInt8.lt_trans h h')
      · exact .inl h
    · rcases h' with h' | ⟨rfl, h'⟩
      · exact .inl h'
      · exact .inr ⟨rfl, lt_tr h h'⟩
theorem lt_tot : ∀ (x y : List UInt8), x < y ∨ x = y ∨ y < x
  | [], [] => .inr (.inl rfl)
  | [], b :: y => .inl (by simp)
  | a :: x, [] => .inr (.inr (by simp))
  | a :: x, b :: y => by
    simp only [List.cons_lt_cons_iff]
    rcases lt_tot x y with h | h | h
    all_goals
      by_cases h1 : a < b
      · exact .inl (.inl h1)
      by_cases h2 : b < a
      · exact .inr (.inr (.inl h2))
      have h3 : a = b := UInt8.le_antisymm (UInt8.not_lt.1 h2) (UInt8.not_lt.1 h1)
      subst h3
    · exact .inl (.inr ⟨rfl, h⟩)
    · exact .inr (.inl (by rw [h]))
    · exact .inr (.inr (.inr ⟨rfl, h⟩))
theorem isNaN_con (n : Int) : ACon Try.prog 29 [.p (I n)] (.p (B false)) := by
  refine wBody Try.tab Try.mixed Try.func29 rfl rfl Try.ntmps29 (by simp) (by simp) fun Q hr hn => ?_
  repeat' first | (refine hK _ ?_; clear hK) | (refine hK _ _ ?_; clear hK) | (clear hK; refine hK _ ?_; clear hK) | (clear hK; clear hK; refine hK _ ?_; clear hK) | (clear hK; clear hK; clear hK; refine hK _ ?_; clear hK) | (clear hK; clear hK; clear hK; clear hK; refine hK _ ?_; clear hK) | (refine wSeq fun K hK => ?_) | ((first | refine wReg ?_ | refine wDrwQ rfl (by kernel_rfl) ?_ | refine wDrwI ?_ | refine wDrw (by kernel_rfl) ?_); simp only [List.map_cons, List.map_nil, strip]) | ((first | refine wIs fun K hK => ?_ | refine wOs fun K hK => ?_ | refine wQs fun K hK => ?_ | refine CallK_plain ?_ | refine CallQ_plain ?_ | refine CallR_plain ?_ | refine wCond ?_); simp) | (refine wIn ?_; refine And.intro (by kernel_rfl) ?_; try simp only [thenA_n]) | (first | refine wBlock ?_ | refine wScope ?_) | ((first | refine wRet ?_ | refine wExit ?_ | refine wSkip ?_); try simp) | ((first | refine wLabel ?_ | refine wOn ?_ | refine wQn ?_); try simp only [thenA_n])
  apply hr
  simp [Try.f29]
def cmpInt (a b : Int) : Int := if a < b then -1 else if b < a then 1 else 0
theorem compare_con (a b : Int) : ACon Try.prog 22 [.p (I a), .p (I b)] (.p (I (cmpInt a b))) := by
  refine wBody Try.tab Try.mixed Try.func22 rfl rfl Try.ntmps22 (by simp) (by simp) fun Q hr hn => ?_
  repeat' first | (refine hK _ ?_; clear hK) | (refine hK _ _ ?_; clear hK) | (clear hK; refine hK _ ?_; clear hK) | (clear hK; clear hK; refine hK _ ?_; clear hK) | (clear hK; clear hK; clear hK; refine hK _ ?_; clear hK) | (clear hK; clear hK; clear hK; clear hK; refine hK _ ?_; clear hK) | (refine wSeq fun K hK => ?_) | ((first | refine wReg ?_ | refine wDrwQ rfl (by kernel_rfl) ?_ | refine wDrwI ?_ | refine wDrw (by kernel_rfl) ?_); simp only [List.map_cons, List.map_nil, strip]) | ((first | refine wIs fun K hK => ?_ | refine wOs fun K hK => ?_ | refine wQs fun K hK => ?_ | refine CallK_plain ?_ | refine CallQ_plain ?_ | refine CallR_plain ?_ | refine wCond ?_); simp) | (refine wIn ?_; refine And.intro (by kernel_rfl) ?_; try simp only [thenA_n]) | (first | refine wBlock ?_ | refine wScope ?_) | ((first | refine wRet ?_ | refine wExit ?_ | refine wSkip ?_); try simp) | ((first | refine wLabel ?_ | refine wOn ?_ | refine wQn ?_); try simp only [thenA_n]) | (refine CallE.pure (isNaN_con _) rfl ?_) | (refine CallE.lent (isNaN_con _) rfl ?_) | (refine CallF.pure (isNaN_con _) rfl ?_) | (refine CallF.lent (isNaN_con _) rfl ?_) | (refine CallE.own (isNaN_con _) ?_) | (refine CallH.pure (isNaN_con _) rfl ?_) | (refine CallH.lent (isNaN_con _) rfl ?_) | (refine CallH.own (isNaN_con _) ?_) | (refine And.intro (fun _ => ?_) (fun _ => ?_))
  all_goals (apply hr; simp [Try.f22, cmpInt]; try omega)
theorem isNaNS_con (x : List UInt8) : ACon Try.prog 30 [.p (SB x)] (.p (B false)) := by
  refine wBody Try.tab Try.mixed Try.func30 rfl rfl Try.ntmps30 (by simp) (by simp) fun Q hr hn => ?_
  repeat' first | (refine hK _ ?_; clear hK) | (refine hK _ _ ?_; clear hK) | (clear hK; refine hK _ ?_; clear hK) | (clear hK; clear hK; refine hK _ ?_; clear hK) | (clear hK; clear hK; clear hK; refine hK _ ?_; clear hK) | (clear hK; clear hK; clear hK; clear hK; refine hK _ ?_; clear hK) | (refine wSeq fun K hK => ?_) | ((first | refine wReg ?_ | refine wDrwQ rfl (by kernel_rfl) ?_ | refine wDrwI ?_ | refine wDrw (by kernel_rfl) ?_); simp only [List.map_cons, List.map_nil, strip]) | ((first | refine wIs fun K hK => ?_ | refine wOs fun K hK => ?_ | refine wQs fun K hK => ?_ | refine CallK_plain ?_ | refine CallQ_plain ?_ | refine CallR_plain ?_ | refine wCond ?_); simp) | (refine wIn ?_; refine And.intro (by kernel_rfl) ?_; try simp only [thenA_n]) | (first | refine wBlock ?_ | refine wScope ?_) | ((first | refine wRet ?_ | refine wExit ?_ | refine wSkip ?_); try simp) | ((first | refine wLabel ?_ | refine wOn ?_ | refine wQn ?_); try simp only [thenA_n])
  all_goals apply hr
  all_goals simp [Try.f30]
def cmpS (x y : List UInt8) : Int := if x < y then -1 else if y < x then 1 else 0
theorem compareS_con (x y : List UInt8) : ACon Try.prog 23 [.p (SB x), .p (SB y)] (.p (I (cmpS x y))) := by
  have e1 := lss_eq x y
  have e2 := lss_eq y x
  unfold lss at e1 e2
  unfold cmpS
  by_cases h1 : x < y
  · have h1' : Op.bytesLess x y = true := by rw [e1]; exact decide_eq_true h1
    refine wBody Try.tab Try.mixed Try.func23 rfl rfl Try.ntmps23 (by simp) (by simp) fun Q hr hn => ?_
    repeat' first | (refine hK _ ?_; clear hK) | (refine hK _ _ ?_; clear hK) | (clear hK; refine hK _ ?_; clear hK) | (clear hK; clear hK; refine hK _ ?_; clear hK) | (clear hK; clear hK; clear hK; refine hK _ ?_; clear hK) | (clear hK; clear hK; clear hK; clear hK; refine hK _ ?_; clear hK) | (refine wSeq fun K hK => ?_) | ((first | refine wReg ?_ | refine wDrwQ rfl (by kernel_rfl) ?_ | refine wDrwI ?_ | refine wDrw (by kernel_rfl) ?_); simp only [List.map_cons, List.map_nil, strip]) | ((first | refine wIs fun K hK => ?_ | refine wOs fun K hK => ?_ | refine wQs fun K hK => ?_ | refine CallK_plain ?_ | refine CallQ_plain ?_ | refine CallR_plain ?_ | refine wCond ?_); simp [h1, h1']) | (refine wIn ?_; refine And.intro (by kernel_rfl) ?_; try simp only [thenA_n]) | (first | refine wBlock ?_ | refine wScope ?_) | ((first | refine wRet ?_ | refine wExit ?_ | refine wSkip ?_); try simp) | ((first | refine wLabel ?_ | refine wOn ?_ | refine wQn ?_); try simp only [thenA_n]) | (refine CallE.pure (isNaNS_con _) rfl ?_) | (refine CallE.lent (isNaNS_con _) rfl ?_) | (refine CallF.pure (isNaNS_con _) rfl ?_) | (refine CallF.lent (isNaNS_con _) rfl ?_) | (refine CallE.own (isNaNS_con _) ?_) | (refine CallH.pure (isNaNS_con _) rfl ?_) | (refine CallH.lent (isNaNS_con _) rfl ?_) | (refine CallH.own (isNaNS_con _) ?_)
    all_goals apply hr
    all_goals simp [Try.f23, h1]
  have h1' : Op.bytesLess x y = false := by rw [e1]; exact decide_eq_false h1
  by_cases h2 : y < x
  · have h2' : Op.bytesLess y x = true := by rw [e2]; exact decide_eq_true h2
    have hne : ¬ x = y := fun e => lt_irr x (by rw [← e] at h2; exact h2)
    refine wBody Try.tab Try.mixed Try.func23 rfl rfl Try.ntmps23 (by simp) (by simp) fun Q hr hn => ?_
    repeat' first | (refine hK _ ?_; clear hK) | (refine hK _ _ ?_; clear hK) | (clear hK; refine hK _ ?_; clear hK) | (clear hK; clear hK; refine hK _ ?_; clear hK) | (clear hK; clear hK; clear hK; refine hK _ ?_; clear hK) | (clear hK; clear hK; clear hK; clear hK; refine hK _ ?_; clear hK) | (refine wSeq fun K hK => ?_) | ((first | refine wReg ?_ | refine wDrwQ rfl (by kernel_rfl) ?_ | refine wDrwI ?_ | refine wDrw (by kernel_rfl) ?_); simp only [List.map_cons, List.map_nil, strip]) | ((first | refine wIs fun K hK => ?_ | refine wOs fun K hK => ?_ | refine wQs fun K hK => ?_ | refine CallK_plain ?_ | refine CallQ_plain ?_ | refine CallR_plain ?_ | refine wCond ?_); simp [h1', h2', hne]) | (refine wIn ?_; refine And.intro (by kernel_rfl) ?_; try simp only [thenA_n]) | (first | refine wBlock ?_ | refine wScope ?_) | ((first | refine wRet ?_ | refine wExit ?_ | refine wSkip ?_); try simp) | ((first | refine wLabel ?_ | refine wOn ?_ | refine wQn ?_); try simp only [thenA_n]) | (refine CallE.pure (isNaNS_con _) rfl ?_) | (refine CallE.lent (isNaNS_con _) rfl ?_) | (refine CallF.pure (isNaNS_con _) rfl ?_) | (refine CallF.lent (isNaNS_con _) rfl ?_) | (refine CallE.own (isNaNS_con _) ?_) | (refine CallH.pure (isNaNS_con _) rfl ?_) | (refine CallH.lent (isNaNS_con _) rfl ?_) | (refine CallH.own (isNaNS_con _) ?_)
    all_goals apply hr
    all_goals simp [Try.f23, h1, h2]
  have h2' : Op.bytesLess y x = false := by rw [e2]; exact decide_eq_false h2
  have he : x = y := (lt_tot x y).elim (fun g => absurd g h1) fun g => g.elim id fun g => absurd g h2
  subst he
  refine wBody Try.tab Try.mixed Try.func23 rfl rfl Try.ntmps23 (by simp) (by simp) fun Q hr hn => ?_
  repeat' first | (refine hK _ ?_; clear hK) | (refine hK _ _ ?_; clear hK) | (clear hK; refine hK _ ?_; clear hK) | (clear hK; clear hK; refine hK _ ?_; clear hK) | (clear hK; clear hK; clear hK; refine hK _ ?_; clear hK) | (clear hK; clear hK; clear hK; clear hK; refine hK _ ?_; clear hK) | (refine wSeq fun K hK => ?_) | ((first | refine wReg ?_ | refine wDrwQ rfl (by kernel_rfl) ?_ | refine wDrwI ?_ | refine wDrw (by kernel_rfl) ?_); simp only [List.map_cons, List.map_nil, strip]) | ((first | refine wIs fun K hK => ?_ | refine wOs fun K hK => ?_ | refine wQs fun K hK => ?_ | refine CallK_plain ?_ | refine CallQ_plain ?_ | refine CallR_plain ?_ | refine wCond ?_); simp [h1']) | (refine wIn ?_; refine And.intro (by kernel_rfl) ?_; try simp only [thenA_n]) | (first | refine wBlock ?_ | refine wScope ?_) | ((first | refine wRet ?_ | refine wExit ?_ | refine wSkip ?_); try simp) | ((first | refine wLabel ?_ | refine wOn ?_ | refine wQn ?_); try simp only [thenA_n]) | (refine CallE.pure (isNaNS_con _) rfl ?_) | (refine CallE.lent (isNaNS_con _) rfl ?_) | (refine CallF.pure (isNaNS_con _) rfl ?_) | (refine CallF.lent (isNaNS_con _) rfl ?_) | (refine CallE.own (isNaNS_con _) ?_) | (refine CallH.pure (isNaNS_con _) rfl ?_) | (refine CallH.lent (isNaNS_con _) rfl ?_) | (refine CallH.own (isNaNS_con _) ?_)
  all_goals apply hr
  all_goals simp [Try.f23, h1, h2]
def orL : List Int → Int
  | [] => 0
  | a :: l => if a = 0 then orL l else a
theorem or_con (l : List Int) : ACon Try.prog 21 [.p (.sl 1 (l.map fun n => [I n]))] (.p (I (orL l))) := by
  refine ACon.len ⟨Try.f21, Try.func21, rfl, rfl⟩ 0 _ _ rfl fun hlen => ?_
  simp only [List.length_map] at hlen
  refine wBody Try.tab Try.mixed Try.func21 rfl rfl Try.ntmps21 (by simp) (by simp) fun Q hr hn => ?_
  repeat' first | (refine hK _ ?_; clear hK) | (refine hK _ _ ?_; clear hK) | (clear hK; refine hK _ ?_; clear hK) | (clear hK; clear hK; refine hK _ ?_; clear hK) | (clear hK; clear hK; clear hK; refine hK _ ?_; clear hK) | (clear hK; clear hK; clear hK; clear hK; refine hK _ ?_; clear hK) | (refine wSeq fun K hK => ?_) | ((first | refine wReg ?_ | refine wDrwQ rfl (by kernel_rfl) ?_ | refine wDrwI ?_ | refine wDrw (by kernel_rfl) ?_); simp only [List.map_cons, List.map_nil, strip]) | ((first | refine wIs fun K hK => ?_ | refine wOs fun K hK => ?_ | refine wQs fun K hK => ?_ | refine CallK_plain ?_ | refine CallQ_plain ?_ | refine CallR_plain ?_ | refine wCond ?_); simp) | (refine wIn ?_; refine And.intro (by kernel_rfl) ?_; try simp only [thenA_n]) | (first | refine wBlock ?_ | refine wScope ?_) | ((first | refine wRet ?_ | refine wExit ?_ | refine wSkip ?_); try simp) | ((first | refine wLabel ?_ | refine wOn ?_ | refine wQn ?_); try simp only [thenA_n])
  refine wLoop (fun n st => ∃ k, k + n = l.length ∧ st.s 6 = .p (.sl 1 (l.map fun n => [I n])) ∧ st.s 7 = .p (I l.length) ∧ st.s 8 = .p (I k) ∧ st.s 3 = .p (I 0) ∧ orL (l.drop k) = orL l) l.length ⟨0, by simp⟩ fun K n st hL ⟨k, hk, h6, h7, h8, h3, hor⟩ => ?_
  by_cases hlt : k < l.length
  · have hw := wrapS k _ hlt hlen
    have hd : l.drop k = l[k] :: l.drop (k + 1) := List.drop_eq_getElem_cons hlt
    have he : l[k]? = some l[k] := List.getElem?_eq_getElem hlt
    rw [hd, orL] at hor
    repeat' first | (refine hK _ ?_; clear hK) | (refine hK _ _ ?_; clear hK) | (clear hK; refine hK _ ?_; clear hK) | (clear hK; clear hK; refine hK _ ?_; clear hK) | (clear hK; clear hK; clear hK; refine hK _ ?_; clear hK) | (clear hK; clear hK; clear hK; clear hK; refine hK _ ?_; clear hK) | (refine wSeq fun K hK => ?_) | ((first | refine wReg ?_ | refine wDrwQ rfl (by kernel_rfl) ?_ | refine wDrwI ?_ | refine wDrw (by kernel_rfl) ?_); simp only [List.map_cons, List.map_nil, strip]) | ((first | refine wIs fun K hK => ?_ | refine wOs fun K hK => ?_ | refine wQs fun K hK => ?_ | refine CallK_plain ?_ | refine CallQ_plain ?_ | refine CallR_plain ?_ | refine wCond ?_); simp [h6, h7, h8, h3, hlt, hw, he]) | (refine wIn ?_; refine And.intro (by kernel_rfl) ?_; try simp only [thenA_n]) | (first | refine wBlock ?_ | refine wScope ?_) | ((first | refine wRet ?_ | refine wExit ?_ | refine wSkip ?_); try simp) | ((first | refine wLabel ?_ | refine wOn ?_ | refine wQn ?_); try simp only [thenA_n]) | (refine And.intro (fun hc => ?_) (fun hc => ?_))
    · apply hr
      simp [Try.f21]
      rw [if_neg hc] at hor; exact hor.symm
    · refine hL _ (n - 1) (by omega) ⟨k + 1, by omega, ?_⟩
      rw [if_pos hc] at hor
      simp [h6, h7, h3, hw, hor]
  · have hd : l.drop k = [] := List.drop_of_length_le (by omega)
    rw [hd] at hor
    repeat' first | (refine hK _ ?_; clear hK) | (refine hK _ _ ?_; clear hK) | (clear hK; refine hK _ ?_; clear hK) | (clear hK; clear hK; refine hK _ ?_; clear hK) | (clear hK; clear hK; clear hK; refine hK _ ?_; clear hK) | (clear hK; clear hK; clear hK; clear hK; refine hK _ ?_; clear hK) | (refine wSeq fun K hK => ?_) | ((first | refine wReg ?_ | refine wDrwQ rfl (by kernel_rfl) ?_ | refine wDrwI ?_ | refine wDrw (by kernel_rfl) ?_); simp only [List.map_cons, List.map_nil, strip]) | ((first | refine wIs fun K hK => ?_ | refine wOs fun K hK => ?_ | refine wQs fun K hK => ?_ | refine CallK_plain ?_ | refine CallQ_plain ?_ | refine CallR_plain ?_ | refine wCond ?_); simp [h6, h7, h8, h3, hlt]) | (refine wIn ?_; refine And.intro (by kernel_rfl) ?_; try simp only [thenA_n]) | (first | refine wBlock ?_ | refine wScope ?_) | ((first | refine wRet ?_ | refine wExit ?_ | refine wSkip ?_); try simp) | ((first | refine wLabel ?_ | refine wOn ?_ | refine wQn ?_); try simp only [thenA_n])
    apply hr
    simp [Try.f21, h3, ← hor, orL]
def ahd (a b : Wt) : Bool := decide (orL [cmpInt a.s b.s, cmpInt a.k b.k, cmpS a.p b.p] < 0)
theorem ahd_iff (a b : Wt) : ahd a b = true ↔ a.s < b.s ∨ a.s = b.s ∧ (a.k < b.k ∨ a.k = b.k ∧ a.p < b.p) := by
  unfold ahd cmpInt cmpS
  rw [decide_eq_true_iff]
  simp only [orL]
  by_cases h1 : a.p < b.p <;> by_cases h2 : b.p < a.p <;> simp only [h1, h2, if_true, if_false, and_true, and_false, or_false]
  all_goals (repeat' split)
  all_goals omega
theorem ahead_con (a b : Wt) : ACon Try.prog 15 [.p (.agg [I a.s, I a.k, SB a.p]), .p (.agg [I b.s, I b.k, SB b.p])] (.p (B (ahd a b))) := by
  have c1 := compare_con a.s b.s
  have c2 := compare_con a.k b.k
  have c3 := compareS_con a.p b.p
  have c4 := or_con [cmpInt a.s b.s, cmpInt a.k b.k, cmpS a.p b.p]
  simp only [List.map_cons, List.map_nil] at c4
  unfold ahd
  refine wBody Try.tab Try.mixed Try.func15 rfl rfl Try.ntmps15 (by simp) (by simp) fun Q hr hn => ?_
  repeat' first | (refine hK _ ?_; clear hK) | (refine hK _ _ ?_; clear hK) | (clear hK; refine hK _ ?_; clear hK) | (clear hK; clear hK; refine hK _ ?_; clear hK) | (clear hK; clear hK; clear hK; refine hK _ ?_; clear hK) | (clear hK; clear hK; clear hK; clear hK; refine hK _ ?_; clear hK) | (refine wSeq fun K hK => ?_) | ((first | refine wReg ?_ | refine wDrwQ rfl (by kernel_rfl) ?_ | refine wDrwI ?_ | refine wDrw (by kernel_rfl) ?_); simp only [List.map_cons, List.map_nil, strip]) | ((first | refine wIs fun K hK => ?_ | refine wOs fun K hK => ?_ | refine wQs fun K hK => ?_ | refine CallK_plain ?_ | refine CallQ_plain ?_ | refine CallR_plain ?_ | refine wCond ?_); simp) | (refine wIn ?_; refine And.intro (by kernel_rfl) ?_; try simp only [thenA_n]) | (first | refine wBlock ?_ | refine wScope ?_) | ((first | refine wRet ?_ | refine wExit ?_ | refine wSkip ?_); try simp) | ((first | refine wLabel ?_ | refine wOn ?_ | refine wQn ?_); try simp only [thenA_n]) | (refine CallE.pure (c1) rfl ?_) | (refine CallE.lent (c1) rfl ?_) | (refine CallF.pure (c1) rfl ?_) | (refine CallF.lent (c1) rfl ?_) | (refine CallE.own (c1) ?_) | (refine CallH.pure (c1) rfl ?_) | (refine CallH.lent (c1) rfl ?_) | (refine CallH.own (c1) ?_) | (refine CallE.pure (c2) rfl ?_) | (refine CallE.lent (c2) rfl ?_) | (refine CallF.pure (c2) rfl ?_) | (refine CallF.lent (c2) rfl ?_) | (refine CallE.own (c2) ?_) | (refine CallH.pure (c2) rfl ?_) | (refine CallH.lent (c2) rfl ?_) | (refine CallH.own (c2) ?_) | (refine CallE.pure (c3) rfl ?_) | (refine CallE.lent (c3) rfl ?_) | (refine CallF.pure (c3) rfl ?_) | (refine CallF.lent (c3) rfl ?_) | (refine CallE.own (c3) ?_) | (refine CallH.pure (c3) rfl ?_) | (refine CallH.lent (c3) rfl ?_) | (refine CallH.own (c3) ?_) | (refine CallE.pure (c4) rfl ?_) | (refine CallE.lent (c4) rfl ?_) | (refine CallF.pure (c4) rfl ?_) | (refine CallF.lent (c4) rfl ?_) | (refine CallE.own (c4) ?_) | (refine CallH.pure (c4) rfl ?_) | (refine CallH.lent (c4) rfl ?_) | (refine CallH.own (c4) ?_)
  all_goals apply hr
  all_goals simp [Try.f15]
theorem ahd_irr (a : Wt) : ¬ ahd a a = true := fun h => by
  rw [ahd_iff] at h
  rcases h with h | ⟨-, h | ⟨-, h⟩⟩
  · omega
  · omega
  · exact lt_irr _ h
theorem ahd_tr {a b c : Wt} (h : ahd a b = true) (h' : ahd b c = true) : ahd a c = true := by
  rw [ahd_iff] at h h' ⊢
  rcases h with h | ⟨e, h | ⟨e', h⟩⟩ <;> rcases h' with h' | ⟨f, h' | ⟨f', h'⟩⟩
  all_goals first | (left; omega) | (right; refine ⟨by omega, ?_⟩; first | (left; omega) | (right; exact ⟨by omega, lt_tr h h'⟩))
theorem ahd_tot (a b : Wt) (h : ¬ ahd a b = true) (hn : ¬ a = b) : ahd b a = true := by
  rw [ahd_iff] at h ⊢
  have h1 : ¬ a.s < b.s := fun g => h (.inl g)
  by_cases h2 : b.s < a.s
  · exact .inl h2
  have e1 : a.s = b.s := by omega
  have h3 : ¬ a.k < b.k := fun g => h (.inr ⟨e1, .inl g⟩)
  by_cases h4 : b.k < a.k
  · exact .inr ⟨e1.symm, .inl h4⟩
  have e2 : a.k = b.k := by omega
  have h5 : ¬ a.p < b.p := fun g => h (.inr ⟨e1, .inr ⟨e2, g⟩⟩)
  rcases lt_tot a.p b.p with g | g | g
  · exact absurd g h5
  · exact absurd (by cases a; cases b; simp_all) hn
  · exact .inr ⟨e1.symm, .inr ⟨e2.symm, g⟩⟩
/-! ### A watch put in -/
def okW (w : Wt) : Bool := decide (1 ≤ w.s ∧ (w.k = 1 ∨ w.k = 2) ∧ chk w.p = 0)
def atW (w : Wt) : List Wt → Nat
  | [] => 0
  | x :: r => if ahd x w = true then atW w r + 1 else 0
theorem atW_step {l : List Wt} {k : Nat} (h : k < l.length) (w : Wt) : atW w (l.drop k) = if ahd l[k] w = true then atW w (l.drop (k + 1)) + 1 else 0 := by
  rw [List.drop_eq_getElem_cons h]; rfl
theorem atW_le (w : Wt) : ∀ l : List Wt, atW w l ≤ l.length
  | [] => by simp [atW]
  | x :: r => by
    have := atW_le w r
    rw [atW]; split <;> simp <;> omega
def ins (w : Wt) : List Wt → List Wt
  | [] => [w]
  | x :: r => if ahd x w = true then x :: ins w r else if x = w then x :: r else w :: x :: r
theorem ins_eq (w : Wt) : ∀ l : List Wt, ins w l = if l[atW w l]? = some w then l else l.take (atW w l) ++ w :: l.drop (atW w l)
  | [] => by simp [ins, atW]
  | x :: r => by
    have ih := ins_eq w r
    rw [ins, atW]
    by_cases h : ahd x w = true
    · rw [if_pos h, if_pos h, ih]
      simp only [List.getElem?_cons_succ, List.take_succ_cons, List.drop_succ_cons, List.cons_append]
      split <;> rfl
    · rw [if_neg h, if_neg h]
      by_cases e : x = w <;> simp [e]
theorem ins_len (w : Wt) : ∀ l : List Wt, (ins w l).length ≤ l.length + 1
  | [] => by simp [ins]
  | x :: r => by
    have := ins_len w r
    rw [ins]; (repeat' split) <;> simp <;> omega
theorem ins_mem (w z : Wt) : ∀ l : List Wt, z ∈ ins w l ↔ z = w ∨ z ∈ l
  | [] => by simp [ins]
  | x :: r => by
    have ih := ins_mem w z r
    rw [ins]
    by_cases h : ahd x w = true
    · rw [if_pos h, List.mem_cons, ih, List.mem_cons]
      constructor
      · rintro (g | g | g)
        · exact .inr (.inl g)
        · exact .inl g
        · exact .inr (.inr g)
      · rintro (g | g | g)
        · exact .inr (.inl g)
        · exact .inl g
        · exact .inr (.inr g)
    · rw [if_neg h]
      by_cases e : x = w
      · rw [if_pos e, e]; simp
      · rw [if_neg e, List.mem_cons]
abbrev Srt (l : List Wt) : Prop := l.Pairwise fun a b => ahd a b = true
theorem ins_srt (w : Wt) : ∀ {l : List Wt}, Srt l → Srt (ins w l)
  | [], _ => by simp [ins, Srt]
  | x :: r, h => by
    obtain ⟨h1, h2⟩ := List.pairwise_cons.1 h
    have ih := ins_srt w h2
    rw [ins]
    by_cases g : ahd x w = true
    · rw [if_pos g]
      refine List.pairwise_cons.2 ⟨fun z hz => ?_, ih⟩
      rcases (ins_mem w z r).1 hz with rfl | hz
      · exact g
      · exact h1 z hz
    · rw [if_neg g]
      by_cases e : x = w
      · rw [if_pos e]; exact h
      · rw [if_neg e]
        have hw := ahd_tot x w g e
        refine List.pairwise_cons.2 ⟨fun z hz => ?_, h⟩
        rcases List.mem_cons.1 hz with rfl | hz
        · exact hw
        · exact ahd_tr hw (h1 z hz)
theorem srt_ext : ∀ {l m : List Wt}, Srt l → Srt m → (∀ z, z ∈ l ↔ z ∈ m) → l = m
  | [], [], _, _, _ => rfl
  | [], y :: m, _, _, h => absurd ((h y).2 (by simp)) (by simp)
  | x :: l, [], _, _, h => absurd ((h x).1 (by simp)) (by simp)
  | x :: l, y :: m, hl, hm, h => by
    obtain ⟨l1, l2⟩ := List.pairwise_cons.1 hl
    obtain ⟨m1, m2⟩ := List.pairwise_cons.1 hm
    have e : x = y := by
      rcases List.mem_cons.1 ((h x).1 (by simp)) with g | g
      · exact g
      · rcases List.mem_cons.1 ((h y).2 (by simp)) with g' | g'
        · exact g'.symm
        · exact absurd (ahd_tr (l1 y g') (m1 x g)) (ahd_irr x)
    subst e
    rw [srt_ext l2 m2 fun z => ⟨fun hz => ?_, fun hz => ?_⟩]
    · rcases List.mem_cons.1 ((h z).1 (by simp [hz])) with g | g
      · subst g; exact absurd (l1 z hz) (ahd_irr z)
      · exact g
    · rcases List.mem_cons.1 ((h z).2 (by simp [hz])) with g | g
      · subst g; exact absurd (m1 z hz) (ahd_irr z)
      · exact g
end Go.Proofs.Ytkeopdjnidmaeaa
