/- Nodes of the tree: put in any order; the law ZnodeOrder. -/
import Derived.Test.YtpadfoaigbfekaaNI
namespace Go.Proofs.Ytpadfoaigbfekaa
set_option linter.unusedSimpArgs false
set_option linter.unusedVariables false
open Go Go.Av
attribute [local simp] Try.T1 Try.T2 Try.T3 Try.T4 Try.T5 Try.T9 Try.T12 Try.T21 Try.T22 Try.T24 Try.T25 Try.T26 Try.T27 Try.T28 Try.T29 Try.T30 Try.T31 Try.T33 Try.T34 Try.T35 Try.T36 Try.T37 Try.T38 Try.T39 Try.T41 Try.T42 Try.T43 Try.T44 Try.T46 Try.T47 Try.T49 Try.T51 Try.T52 Try.T53 Try.T54 Try.T56 Try.T57 Try.T58 Try.T59 Try.T60 Try.T62 Try.T64 Try.T65 Try.T66 Try.T67 Try.T68 Try.T69 Try.T70 Try.T71 Try.T72 Try.T73 Try.T75 Try.T76 Try.T77 Try.T78 Try.T79 Try.T80 Try.T82 Try.T83 Try.T84 Try.T85 Try.T87 Try.T88 Try.T89 Try.T90 Try.T91 Try.T92 Try.T93 Try.T94 Try.T95 Try.T96 Try.T97 Try.T98 Try.T99 Try.T100 Try.T102 Try.T103 Try.T104 Try.T105 Try.T106 Try.T107 Try.T109 Try.T110 Try.T111 Try.T112 Try.T113 Try.T114 Try.T115 Try.T116 Try.T117 Try.T123 Try.T126
attribute [local irreducible] Go.Av.CallK Go.Av.CallE Go.Av.CallQ Go.Av.CallF Go.Av.Con

def puts (m s : List Zn) : List Zn := s.foldl putZ m
theorem puts_snoc {m s : List Zn} {k : Nat} (h : k < s.length) : puts m (s.take (k + 1)) = putZ (puts m (s.take k)) s[k] := by
  rw [take_snocN _ k h]; unfold puts; rw [List.foldl_append]; rfl
theorem puts_len (m : List Zn) : ∀ s : List Zn, (puts m s).length ≤ m.length + s.length := by
  intro s
  induction s generalizing m with
  | nil => simp [puts]
  | cons x s ih =>
    have h1 := ih (putZ m x)
    have h2 := putZ_len m x
    unfold puts at h1 ⊢
    rw [List.foldl_cons, List.length_cons]; omega
theorem puts_ris : ∀ (s : List Zn) {m : List Zn}, ris m → ris (puts m s)
  | [], m, h => h
  | x :: s, m, h => puts_ris s (ris_put h x)
def Dst (s : List Zn) : Prop := s.Pairwise fun a b => ¬ a.p = b.p
theorem puts_fnd : ∀ (s : List Zn) (m : List Zn) (w : List UInt8), Dst s → fnd (puts m s) w = if (fnd s w).2 = true then fnd s w else fnd m w
  | [], m, w, _ => by simp [puts, fnd]
  | x :: s, m, w, h => by
    unfold Dst at h
    rw [List.pairwise_cons] at h
    have ih := puts_fnd s (putZ m x) w h.2
    show fnd (puts (putZ m x) s) w = _
    rw [ih, fnd_put, fnd]
    by_cases g : x.p = w
    · have hn : fnd s w = (zz, false) := fnd_none fun z hz e => h.1 z hz (by rw [g, e])
      rw [hn]; simp [g]
    · simp [g]
theorem fnd_perm {s t : List Zn} (hs : Dst s) (ht : Dst t) (h : ∀ z, z ∈ s ↔ z ∈ t) (w : List UInt8) : fnd s w = fnd t w := by
  have key : ∀ {s : List Zn}, Dst s → ∀ z ∈ s, fnd s z.p = (z, true) := by
    intro s hs
    induction s with
    | nil => intro z hz; simp at hz
    | cons x s ih =>
      intro z hz
      unfold Dst at hs
      rw [List.pairwise_cons] at hs
      rw [fnd]
      rcases List.mem_cons.1 hz with rfl | hz
      · rw [if_pos rfl]
      · rw [if_neg (hs.1 z hz)]; exact ih hs.2 z hz
  cases h1 : (fnd s w).2
  · rw [fnd_false h1, fnd_none fun z hz e => ?_]
    have := key hs z ((h z).2 hz)
    rw [e] at this
    rw [this] at h1; simp at h1
  · obtain ⟨m1, m2⟩ := fnd_mem h1
    have e1 := key ht _ ((h _).1 m1)
    rw [m2] at e1
    rw [e1]
    generalize fnd s w = r at h1 ⊢
    obtain ⟨a, b⟩ := r
    simp only at h1 ⊢
    rw [h1]
theorem puts_perm {s t m : List Zn} (hm : ris m) (hs : Dst s) (ht : Dst t) (h : ∀ z, z ∈ s ↔ z ∈ t) : puts m s = puts m t :=
  ris_ext (puts_ris s hm) (puts_ris t hm) fun w => by rw [puts_fnd s m w hs, puts_fnd t m w ht, fnd_perm hs ht h w]
/-- The other order. -/
def oth (L n i : Nat) : Nat := (L - 1 - i + n) % L
theorem oth_val {L n i : Nat} (hn : n < L) (hi : i < L) : oth L n i = if L - 1 - i + n < L then L - 1 - i + n else L - 1 - i + n - L := by
  unfold oth
  by_cases h : L - 1 - i + n < L
  · rw [if_pos h, Nat.mod_eq_of_lt h]
  · rw [if_neg h, Nat.mod_eq_sub_mod (by omega), Nat.mod_eq_of_lt (by omega)]
theorem oth_lt {L n i : Nat} (hn : n < L) (hi : i < L) : oth L n i < L := by
  rw [oth_val hn hi]; split <;> omega
theorem oth_inj {L n i j : Nat} (hn : n < L) (hi : i < L) (hj : j < L) (h : oth L n i = oth L n j) : i = j := by
  rw [oth_val hn hi, oth_val hn hj] at h
  split at h <;> split at h <;> omega
theorem oth_sur {L n j : Nat} (hn : n < L) (hj : j < L) : ∃ i, i < L ∧ oth L n i = j := by
  by_cases h : j < n
  · refine ⟨L - 1 - (L + j - n), by omega, ?_⟩
    rw [oth_val hn (by omega)]; split <;> omega
  · refine ⟨L - 1 - (j - n), by omega, ?_⟩
    rw [oth_val hn (by omega)]; split <;> omega
def othL (l : List Zn) (n : Nat) : List Zn := (List.range l.length).map fun i => l.getD (oth l.length n i) zz
theorem othL_len (l : List Zn) (n : Nat) : (othL l n).length = l.length := by simp [othL]
theorem othL_get (l : List Zn) {n i : Nat} (hn : n < l.length) (hi : i < l.length) (h : i < (othL l n).length) : (othL l n)[i] = l[oth l.length n i]'(oth_lt hn hi) := by
  have := oth_lt hn hi
  simp [othL, List.getD_eq_getElem?_getD, List.getElem?_eq_getElem this]
theorem othL_mem {l : List Zn} {n : Nat} (hn : n < l.length) (z : Zn) : z ∈ l ↔ z ∈ othL l n := by
  constructor
  · intro h
    obtain ⟨j, hj, rfl⟩ := List.getElem_of_mem h
    obtain ⟨i, hi, e⟩ := oth_sur hn hj
    have hi' : i < (othL l n).length := by rw [othL_len]; exact hi
    have := othL_get l hn hi hi'
    simp only [e] at this
    rw [← this]
    exact List.getElem_mem hi'
  · intro h
    obtain ⟨i, hi, rfl⟩ := List.getElem_of_mem h
    have hi' : i < l.length := by rw [othL_len] at hi; exact hi
    rw [othL_get l hn hi' hi]
    exact List.getElem_mem _
theorem othL_dst {l : List Zn} {n : Nat} (hn : n < l.length) (h : Dst l) : Dst (othL l n) := by
  unfold Dst at h ⊢
  rw [List.pairwise_iff_getElem] at h ⊢
  intro i j hi hj hij
  have hi' : i < l.length := by rw [othL_len] at hi; exact hi
  have hj' : j < l.length := by rw [othL_len] at hj; exact hj
  rw [othL_get l hn hi' hi, othL_get l hn hj' hj]
  have h1 := oth_lt hn hi'
  have h2 := oth_lt hn hj'
  rcases Nat.lt_trichotomy (oth l.length n i) (oth l.length n j) with g | g | g
  · exact h _ _ h1 h2 g
  · have := oth_inj hn hi' hj' g; omega
  · exact fun e => h _ _ h2 h1 g e.symm
def root1 : List Zn := [⟨[47], [], 0, 0, 0⟩]
theorem root1_ris : ris root1 := by rw [ris_pw]; simp [root1]
set_option maxHeartbeats 8000000 in
theorem znodeOrder_con (l : List Zn) (t : Int) : ACon Try.prog 7 [.p (.sl 5 (zns l)), .p (I t)] (.p (B true)) := by
  have c := far07_con l
  cases hf1 : farN l
  rotate_left
  · rw [hf1] at c
    refine wBody Try.tab Try.mixed Try.func7 rfl rfl Try.ntmps7 (by simp) (by simp) fun Q hr hn => ?_
    repeat' first | (refine hK _ ?_; clear hK) | (refine hK _ _ ?_; clear hK) | (clear hK; refine hK _ ?_; clear hK) | (clear hK; clear hK; refine hK _ ?_; clear hK) | (clear hK; clear hK; clear hK; refine hK _ ?_; clear hK) | (clear hK; clear hK; clear hK; clear hK; refine hK _ ?_; clear hK) | (refine wSeq fun K hK => ?_) | (refine wReg ?_; simp only [List.map_cons, List.map_nil, strip]) | (refine wDrwQ rfl (by kernel_rfl) ?_; simp only [List.map_cons, List.map_nil, strip]) | (refine wDrwI ?_; simp only [List.map_cons, List.map_nil, strip]) | (refine wDrw (by kernel_rfl) ?_; simp only [List.map_cons, List.map_nil, strip]) | (refine wIs fun K hK => ?_; simp) | (refine wIn ?_; refine And.intro (by kernel_rfl) ?_; try simp only [thenA_n]) | (refine wOs fun K hK => ?_; simp) | (refine wQs fun K hK => ?_; simp) | (refine CallK_plain ?_; simp) | (refine CallQ_plain ?_; simp) | (refine wRet ?_; try simp) | (refine wCond ?_; simp) | (refine wBlock ?_) | (refine wScope ?_) | (refine wLabel ?_; try simp only [thenA_n]) | (refine wExit ?_; try simp) | (refine wSkip ?_; try simp) | (refine wOn ?_; try simp only [thenA_n]) | (refine wQn ?_; try simp only [thenA_n]) | (refine CallE.pure (c) rfl ?_) | (refine CallE.lent (c) rfl ?_) | (refine CallF.pure (c) rfl ?_) | (refine CallF.lent (c) rfl ?_) | (refine CallE.own (c) ?_) | (refine CallE.pure (awake07) rfl ?_) | (refine CallE.lent (awake07) rfl ?_) | (refine CallF.pure (awake07) rfl ?_) | (refine CallF.lent (awake07) rfl ?_) | (refine CallE.own (awake07) ?_)
    all_goals apply hr
    all_goals simp [Try.f7]
  have hl := farN_len hf1
  rw [hf1] at c
  by_cases hz : l = []
  · subst hz
    simp only [zns, List.map_nil] at c ⊢
    refine wBody Try.tab Try.mixed Try.func7 rfl rfl Try.ntmps7 (by simp) (by simp) fun Q hr hn => ?_
    repeat' first | (refine hK _ ?_; clear hK) | (refine hK _ _ ?_; clear hK) | (clear hK; refine hK _ ?_; clear hK) | (clear hK; clear hK; refine hK _ ?_; clear hK) | (clear hK; clear hK; clear hK; refine hK _ ?_; clear hK) | (clear hK; clear hK; clear hK; clear hK; refine hK _ ?_; clear hK) | (refine wSeq fun K hK => ?_) | (refine wReg ?_; simp only [List.map_cons, List.map_nil, strip]) | (refine wDrwQ rfl (by kernel_rfl) ?_; simp only [List.map_cons, List.map_nil, strip]) | (refine wDrwI ?_; simp only [List.map_cons, List.map_nil, strip]) | (refine wDrw (by kernel_rfl) ?_; simp only [List.map_cons, List.map_nil, strip]) | (refine wIs fun K hK => ?_; simp) | (refine wIn ?_; refine And.intro (by kernel_rfl) ?_; try simp only [thenA_n]) | (refine wOs fun K hK => ?_; simp) | (refine wQs fun K hK => ?_; simp) | (refine CallK_plain ?_; simp) | (refine CallQ_plain ?_; simp) | (refine wRet ?_; try simp) | (refine wCond ?_; simp) | (refine wBlock ?_) | (refine wScope ?_) | (refine wLabel ?_; try simp only [thenA_n]) | (refine wExit ?_; try simp) | (refine wSkip ?_; try simp) | (refine wOn ?_; try simp only [thenA_n]) | (refine wQn ?_; try simp only [thenA_n]) | (refine CallE.pure (c) rfl ?_) | (refine CallE.lent (c) rfl ?_) | (refine CallF.pure (c) rfl ?_) | (refine CallF.lent (c) rfl ?_) | (refine CallE.own (c) ?_) | (refine CallE.pure (awake07) rfl ?_) | (refine CallE.lent (awake07) rfl ?_) | (refine CallF.pure (awake07) rfl ?_) | (refine CallF.lent (awake07) rfl ?_) | (refine CallE.own (awake07) ?_)
    all_goals apply hr
    all_goals simp [Try.f7]
  have h0 : 0 < l.length := List.length_pos_iff.2 hz
  have hz' : ¬ (l.length : Int) = 0 := by omega
  have hz'' : ¬ l.length = 0 := by omega
  obtain ⟨n, hnl, hw1, hw2⟩ := u64_modN t l.length (by omega) (by omega)
  refine wBody Try.tab Try.mixed Try.func7 rfl rfl Try.ntmps7 (by simp) (by simp) fun Q hr hn => ?_
  repeat' first | (refine hK _ ?_; clear hK) | (refine hK _ _ ?_; clear hK) | (clear hK; refine hK _ ?_; clear hK) | (clear hK; clear hK; refine hK _ ?_; clear hK) | (clear hK; clear hK; clear hK; refine hK _ ?_; clear hK) | (clear hK; clear hK; clear hK; clear hK; refine hK _ ?_; clear hK) | (refine wSeq fun K hK => ?_) | (refine wReg ?_; simp only [List.map_cons, List.map_nil, strip]) | (refine wDrwQ rfl (by kernel_rfl) ?_; simp only [List.map_cons, List.map_nil, strip]) | (refine wDrwI ?_; simp only [List.map_cons, List.map_nil, strip]) | (refine wDrw (by kernel_rfl) ?_; simp only [List.map_cons, List.map_nil, strip]) | (refine wIs fun K hK => ?_; simp [hz, hz', hz'']) | (refine wIn ?_; refine And.intro (by kernel_rfl) ?_; try simp only [thenA_n]) | (refine wOs fun K hK => ?_; simp [hz, hz', hz'']) | (refine wQs fun K hK => ?_; simp [hz, hz', hz'']) | (refine CallK_plain ?_; simp [hz, hz', hz'']) | (refine CallQ_plain ?_; simp [hz, hz', hz'']) | (refine wRet ?_; try simp) | (refine wCond ?_; simp [hz, hz', hz'']) | (refine wBlock ?_) | (refine wScope ?_) | (refine wLabel ?_; try simp only [thenA_n]) | (refine wExit ?_; try simp) | (refine wSkip ?_; try simp) | (refine wOn ?_; try simp only [thenA_n]) | (refine wQn ?_; try simp only [thenA_n]) | (refine CallE.pure (c) rfl ?_) | (refine CallE.lent (c) rfl ?_) | (refine CallF.pure (c) rfl ?_) | (refine CallF.lent (c) rfl ?_) | (refine CallE.own (c) ?_)
  refine wLoop (fun N st => ∃ i, i + N = l.length ∧ st.s 0 = .p (.sl 5 (zns l)) ∧ st.s 1 = .p (I t) ∧ st.s 20 = .p (I l.length) ∧ st.s 21 = .p (I i) ∧ Dst (l.take i)) l.length ⟨0, by simp [Dst]⟩ fun K N st hL ⟨i, hi, g0, g1, g20, g21, hd⟩ => ?_
  by_cases hlt : i < l.length
  · have hw := wrapS i _ hlt (by omega)
    have hei := zns_get hlt
    repeat' first | (refine hK _ ?_; clear hK) | (refine hK _ _ ?_; clear hK) | (clear hK; refine hK _ ?_; clear hK) | (clear hK; clear hK; refine hK _ ?_; clear hK) | (clear hK; clear hK; clear hK; refine hK _ ?_; clear hK) | (clear hK; clear hK; clear hK; clear hK; refine hK _ ?_; clear hK) | (refine wSeq fun K hK => ?_) | (refine wReg ?_; simp only [List.map_cons, List.map_nil, strip]) | (refine wDrwQ rfl (by kernel_rfl) ?_; simp only [List.map_cons, List.map_nil, strip]) | (refine wDrwI ?_; simp only [List.map_cons, List.map_nil, strip]) | (refine wDrw (by kernel_rfl) ?_; simp only [List.map_cons, List.map_nil, strip]) | (refine wIs fun K hK => ?_; simp [g0, g1, g20, g21, hlt, hw]) | (refine wIn ?_; refine And.intro (by kernel_rfl) ?_; try simp only [thenA_n]) | (refine wOs fun K hK => ?_; simp [g0, g1, g20, g21, hlt, hw]) | (refine wQs fun K hK => ?_; simp [g0, g1, g20, g21, hlt, hw]) | (refine CallK_plain ?_; simp [g0, g1, g20, g21, hlt, hw]) | (refine CallQ_plain ?_; simp [g0, g1, g20, g21, hlt, hw]) | (refine wRet ?_; try simp) | (refine wCond ?_; simp [g0, g1, g20, g21, hlt, hw]) | (refine wBlock ?_) | (refine wScope ?_) | (refine wLabel ?_; try simp only [thenA_n]) | (refine wExit ?_; try simp) | (refine wSkip ?_; try simp) | (refine wOn ?_; try simp only [thenA_n]) | (refine wQn ?_; try simp only [thenA_n])
    refine wLoop (fun M st => ∃ k, k + M = i ∧ st.s 0 = .p (.sl 5 (zns l)) ∧ st.s 1 = .p (I t) ∧ st.s 20 = .p (I l.length) ∧ st.s 21 = .p (I i) ∧ st.s 5 = .p (I i) ∧ st.s 24 = .p (I i) ∧ st.s 25 = .p (I k) ∧ ∀ j (hj : j < k) (hjl : j < l.length), ¬ l[j].p = l[i].p) i ⟨0, by simp [g0, g1, g20, g21]⟩ fun K M st hM ⟨k, hk, g0, g1, g20, g21, g5, g24, g25, hne⟩ => ?_
    by_cases hki : k < i
    · have hwk := wrapS k _ hki (by omega)
      have hkl : k < l.length := by omega
      have hek := zns_get hkl
      by_cases he : l[i].p = l[k].p
      · repeat' first | (refine hK _ ?_; clear hK) | (refine hK _ _ ?_; clear hK) | (clear hK; refine hK _ ?_; clear hK) | (clear hK; clear hK; refine hK _ ?_; clear hK) | (clear hK; clear hK; clear hK; refine hK _ ?_; clear hK) | (clear hK; clear hK; clear hK; clear hK; refine hK _ ?_; clear hK) | (refine wSeq fun K hK => ?_) | (refine wReg ?_; simp only [List.map_cons, List.map_nil, strip]) | (refine wDrwQ rfl (by kernel_rfl) ?_; simp only [List.map_cons, List.map_nil, strip]) | (refine wDrwI ?_; simp only [List.map_cons, List.map_nil, strip]) | (refine wDrw (by kernel_rfl) ?_; simp only [List.map_cons, List.map_nil, strip]) | (refine wIs fun K hK => ?_; simp [g0, g1, g20, g21, g5, g24, g25, hki, hwk, hlt, hkl, hei, hek, he]) | (refine wIn ?_; refine And.intro (by kernel_rfl) ?_; try simp only [thenA_n]) | (refine wOs fun K hK => ?_; simp [g0, g1, g20, g21, g5, g24, g25, hki, hwk, hlt, hkl, hei, hek, he]) | (refine wQs fun K hK => ?_; simp [g0, g1, g20, g21, g5, g24, g25, hki, hwk, hlt, hkl, hei, hek, he]) | (refine CallK_plain ?_; simp [g0, g1, g20, g21, g5, g24, g25, hki, hwk, hlt, hkl, hei, hek, he]) | (refine CallQ_plain ?_; simp [g0, g1, g20, g21, g5, g24, g25, hki, hwk, hlt, hkl, hei, hek, he]) | (refine wRet ?_; try simp) | (refine wCond ?_; simp [g0, g1, g20, g21, g5, g24, g25, hki, hwk, hlt, hkl, hei, hek, he]) | (refine wBlock ?_) | (refine wScope ?_) | (refine wLabel ?_; try simp only [thenA_n]) | (refine wExit ?_; try simp) | (refine wSkip ?_; try simp) | (refine wOn ?_; try simp only [thenA_n]) | (refine wQn ?_; try simp only [thenA_n]) | (refine CallE.pure (awake07) rfl ?_) | (refine CallE.lent (awake07) rfl ?_) | (refine CallF.pure (awake07) rfl ?_) | (refine CallF.lent (awake07) rfl ?_) | (refine CallE.own (awake07) ?_)
        all_goals apply hr
        all_goals simp [Try.f7]
      · repeat' first | (refine hK _ ?_; clear hK) | (refine hK _ _ ?_; clear hK) | (clear hK; refine hK _ ?_; clear hK) | (clear hK; clear hK; refine hK _ ?_; clear hK) | (clear hK; clear hK; clear hK; refine hK _ ?_; clear hK) | (clear hK; clear hK; clear hK; clear hK; refine hK _ ?_; clear hK) | (refine wSeq fun K hK => ?_) | (refine wReg ?_; simp only [List.map_cons, List.map_nil, strip]) | (refine wDrwQ rfl (by kernel_rfl) ?_; simp only [List.map_cons, List.map_nil, strip]) | (refine wDrwI ?_; simp only [List.map_cons, List.map_nil, strip]) | (refine wDrw (by kernel_rfl) ?_; simp only [List.map_cons, List.map_nil, strip]) | (refine wIs fun K hK => ?_; simp [g0, g1, g20, g21, g5, g24, g25, hki, hwk, hlt, hkl, hei, hek, he]) | (refine wIn ?_; refine And.intro (by kernel_rfl) ?_; try simp only [thenA_n]) | (refine wOs fun K hK => ?_; simp [g0, g1, g20, g21, g5, g24, g25, hki, hwk, hlt, hkl, hei, hek, he]) | (refine wQs fun K hK => ?_; simp [g0, g1, g20, g21, g5, g24, g25, hki, hwk, hlt, hkl, hei, hek, he]) | (refine CallK_plain ?_; simp [g0, g1, g20, g21, g5, g24, g25, hki, hwk, hlt, hkl, hei, hek, he]) | (refine CallQ_plain ?_; simp [g0, g1, g20, g21, g5, g24, g25, hki, hwk, hlt, hkl, hei, hek, he]) | (refine wRet ?_; try simp) | (refine wCond ?_; simp [g0, g1, g20, g21, g5, g24, g25, hki, hwk, hlt, hkl, hei, hek, he]) | (refine wBlock ?_) | (refine wScope ?_) | (refine wLabel ?_; try simp only [thenA_n]) | (refine wExit ?_; try simp) | (refine wSkip ?_; try simp) | (refine wOn ?_; try simp only [thenA_n]) | (refine wQn ?_; try simp only [thenA_n])
        refine hM _ (M - 1) (by omega) ⟨k + 1, by omega, ?_⟩
        simp [g0, g1, g20, g21, g5, g24, g25, hwk]
        intro j hj hjl
        by_cases hjk : j = k
        · subst hjk; exact fun h => he h.symm
        · exact hne j (by omega) hjl
    · repeat' first | (refine hK _ ?_; clear hK) | (refine hK _ _ ?_; clear hK) | (clear hK; refine hK _ ?_; clear hK) | (clear hK; clear hK; refine hK _ ?_; clear hK) | (clear hK; clear hK; clear hK; refine hK _ ?_; clear hK) | (clear hK; clear hK; clear hK; clear hK; refine hK _ ?_; clear hK) | (refine wSeq fun K hK => ?_) | (refine wReg ?_; simp only [List.map_cons, List.map_nil, strip]) | (refine wDrwQ rfl (by kernel_rfl) ?_; simp only [List.map_cons, List.map_nil, strip]) | (refine wDrwI ?_; simp only [List.map_cons, List.map_nil, strip]) | (refine wDrw (by kernel_rfl) ?_; simp only [List.map_cons, List.map_nil, strip]) | (refine wIs fun K hK => ?_; simp [g0, g1, g20, g21, g5, g24, g25, hki, hw]) | (refine wIn ?_; refine And.intro (by kernel_rfl) ?_; try simp only [thenA_n]) | (refine wOs fun K hK => ?_; simp [g0, g1, g20, g21, g5, g24, g25, hki, hw]) | (refine wQs fun K hK => ?_; simp [g0, g1, g20, g21, g5, g24, g25, hki, hw]) | (refine CallK_plain ?_; simp [g0, g1, g20, g21, g5, g24, g25, hki, hw]) | (refine CallQ_plain ?_; simp [g0, g1, g20, g21, g5, g24, g25, hki, hw]) | (refine wRet ?_; try simp) | (refine wCond ?_; simp [g0, g1, g20, g21, g5, g24, g25, hki, hw]) | (refine wBlock ?_) | (refine wScope ?_) | (refine wLabel ?_; try simp only [thenA_n]) | (refine wExit ?_; try simp) | (refine wSkip ?_; try simp) | (refine wOn ?_; try simp only [thenA_n]) | (refine wQn ?_; try simp only [thenA_n])
      refine hL _ (N - 1) (by omega) ⟨i + 1, by omega, ?_⟩
      simp [g0, g1, g20, g21, hw]
      rw [take_snocN l i hlt]
      refine List.pairwise_append.2 ⟨hd, by simp, fun x hx y hy => ?_⟩
      obtain ⟨j, hj, rfl⟩ := List.getElem_of_mem hx
      have hji : j < i := by simp at hj; omega
      rw [List.mem_singleton.1 hy, List.getElem_take]
      exact hne j (by omega) (by omega)
  · rw [List.take_of_length_le (by omega)] at hd
    have hperm := puts_perm root1_ris hd (othL_dst hnl hd) (othL_mem hnl)
    have cr := root_con
    have hc := same07_con (puts root1 l) (puts root1 l)
    rw [decide_eq_true rfl] at hc
    repeat' first | (refine hK _ ?_; clear hK) | (refine hK _ _ ?_; clear hK) | (clear hK; refine hK _ ?_; clear hK) | (clear hK; clear hK; refine hK _ ?_; clear hK) | (clear hK; clear hK; clear hK; refine hK _ ?_; clear hK) | (clear hK; clear hK; clear hK; clear hK; refine hK _ ?_; clear hK) | (refine wSeq fun K hK => ?_) | (refine wReg ?_; simp only [List.map_cons, List.map_nil, strip]) | (refine wDrwQ rfl (by kernel_rfl) ?_; simp only [List.map_cons, List.map_nil, strip]) | (refine wDrwI ?_; simp only [List.map_cons, List.map_nil, strip]) | (refine wDrw (by kernel_rfl) ?_; simp only [List.map_cons, List.map_nil, strip]) | (refine wIs fun K hK => ?_; simp [g0, g1, g20, g21, hlt, hz, hz', hz'', hw1, hw2]) | (refine wIn ?_; refine And.intro (by kernel_rfl) ?_; try simp only [thenA_n]) | (refine wOs fun K hK => ?_; simp [g0, g1, g20, g21, hlt, hz, hz', hz'', hw1, hw2]) | (refine wQs fun K hK => ?_; simp [g0, g1, g20, g21, hlt, hz, hz', hz'', hw1, hw2]) | (refine CallK_plain ?_; simp [g0, g1, g20, g21, hlt, hz, hz', hz'', hw1, hw2]) | (refine CallQ_plain ?_; simp [g0, g1, g20, g21, hlt, hz, hz', hz'', hw1, hw2]) | (refine wRet ?_; try simp) | (refine wCond ?_; simp [g0, g1, g20, g21, hlt, hz, hz', hz'', hw1, hw2]) | (refine wBlock ?_) | (refine wScope ?_) | (refine wLabel ?_; try simp only [thenA_n]) | (refine wExit ?_; try simp) | (refine wSkip ?_; try simp) | (refine wOn ?_; try simp only [thenA_n]) | (refine wQn ?_; try simp only [thenA_n]) | (refine CallE.pure (cr) rfl ?_) | (refine CallE.lent (cr) rfl ?_) | (refine CallF.pure (cr) rfl ?_) | (refine CallF.lent (cr) rfl ?_) | (refine CallE.own (cr) ?_)
    refine wLoop (fun M st => ∃ i, i + M = l.length ∧ st.s 0 = .p (.sl 5 (zns l)) ∧ st.s 7 = .p (I n) ∧ st.s 52 = .p (I l.length) ∧ st.s 53 = .p (I i) ∧ st.s 8 = .p (.sl 5 (zns (puts root1 (l.take i)))) ∧ st.s 9 = .p (.sl 5 (zns (puts root1 ((othL l n).take i))))) l.length ⟨0, by simp [puts, root1, hw1, g0]⟩ fun K M st hL ⟨i, hi, g0, g7, g52, g53, g8, g9⟩ => ?_
    by_cases hlt : i < l.length
    · have hw := wrapS i _ hlt (by omega)
      have hei := zns_get hlt
      have hlo : i < (othL l n).length := by rw [othL_len]; exact hlt
      have ho := oth_lt hnl hlt
      have heo := zns_get ho
      have hp1 := puts_len root1 (l.take i)
      have hp2 := puts_len root1 ((othL l n).take i)
      have hr1 : root1.length = 1 := rfl
      have c1 := put_con (puts root1 (l.take i)) l[i] (by simp at hp1; omega)
      rw [← puts_snoc hlt] at c1
      have c2 := put_con (puts root1 ((othL l n).take i)) (othL l n)[i] (by simp at hp2; omega)
      rw [← puts_snoc hlo, othL_get l hnl hlt hlo] at c2
      simp only [Zn.c] at c1 c2
      have x1 : IntKind.i64.wrap ((l.length : Int) - 1) = (l.length : Int) - 1 := wrap_id (by omega) (by omega)
      have x2 : IntKind.i64.wrap ((l.length : Int) - 1 - (i : Int)) = (l.length : Int) - 1 - (i : Int) := wrap_id (by omega) (by omega)
      have x3 : IntKind.i64.wrap ((l.length : Int) - 1 - (i : Int) + (n : Int)) = ((l.length - 1 - i + n : Nat) : Int) := by rw [wrap_id (by omega) (by omega)]; omega
      have x4 : (((l.length - 1 - i : Nat) : Int) + (n : Int)).tmod (l.length : Int) = ((oth l.length n i : Nat) : Int) := by unfold oth; exact (Int.ofNat_tmod _ _).symm
      have x5 : (0 : Int) ≤ ((oth l.length n i : Nat) : Int) := by omega
      repeat' first | (refine hK _ ?_; clear hK) | (refine hK _ _ ?_; clear hK) | (clear hK; refine hK _ ?_; clear hK) | (clear hK; clear hK; refine hK _ ?_; clear hK) | (clear hK; clear hK; clear hK; refine hK _ ?_; clear hK) | (clear hK; clear hK; clear hK; clear hK; refine hK _ ?_; clear hK) | (refine wSeq fun K hK => ?_) | (refine wReg ?_; simp only [List.map_cons, List.map_nil, strip]) | (refine wDrwQ rfl (by kernel_rfl) ?_; simp only [List.map_cons, List.map_nil, strip]) | (refine wDrwI ?_; simp only [List.map_cons, List.map_nil, strip]) | (refine wDrw (by kernel_rfl) ?_; simp only [List.map_cons, List.map_nil, strip]) | (refine wIs fun K hK => ?_; simp [g0, g7, g52, g53, g8, g9, hlt, hw, hei, heo, hz', hz'', x1, x2, x3, x4, x5, ho]) | (refine wIn ?_; refine And.intro (by kernel_rfl) ?_; try simp only [thenA_n]) | (refine wOs fun K hK => ?_; simp [g0, g7, g52, g53, g8, g9, hlt, hw, hei, heo, hz', hz'', x1, x2, x3, x4, x5, ho]) | (refine wQs fun K hK => ?_; simp [g0, g7, g52, g53, g8, g9, hlt, hw, hei, heo, hz', hz'', x1, x2, x3, x4, x5, ho]) | (refine CallK_plain ?_; simp [g0, g7, g52, g53, g8, g9, hlt, hw, hei, heo, hz', hz'', x1, x2, x3, x4, x5, ho]) | (refine CallQ_plain ?_; simp [g0, g7, g52, g53, g8, g9, hlt, hw, hei, heo, hz', hz'', x1, x2, x3, x4, x5, ho]) | (refine wRet ?_; try simp) | (refine wCond ?_; simp [g0, g7, g52, g53, g8, g9, hlt, hw, hei, heo, hz', hz'', x1, x2, x3, x4, x5, ho]) | (refine wBlock ?_) | (refine wScope ?_) | (refine wLabel ?_; try simp only [thenA_n]) | (refine wExit ?_; try simp) | (refine wSkip ?_; try simp) | (refine wOn ?_; try simp only [thenA_n]) | (refine wQn ?_; try simp only [thenA_n]) | (refine CallE.pure (c1) rfl ?_) | (refine CallE.lent (c1) rfl ?_) | (refine CallF.pure (c1) rfl ?_) | (refine CallF.lent (c1) rfl ?_) | (refine CallE.own (c1) ?_) | (refine CallE.pure (c2) rfl ?_) | (refine CallE.lent (c2) rfl ?_) | (refine CallF.pure (c2) rfl ?_) | (refine CallF.lent (c2) rfl ?_) | (refine CallE.own (c2) ?_)
      refine hL _ (M - 1) (by omega) ⟨i + 1, by omega, ?_⟩
      simp [g0, g7, g52, g53, g8, g9, hw]
    · rw [List.take_of_length_le (by omega)] at g8
      rw [List.take_of_length_le (by rw [othL_len]; omega), ← hperm] at g9
      repeat' first | (refine hK _ ?_; clear hK) | (refine hK _ _ ?_; clear hK) | (clear hK; refine hK _ ?_; clear hK) | (clear hK; clear hK; refine hK _ ?_; clear hK) | (clear hK; clear hK; clear hK; refine hK _ ?_; clear hK) | (clear hK; clear hK; clear hK; clear hK; refine hK _ ?_; clear hK) | (refine wSeq fun K hK => ?_) | (refine wReg ?_; simp only [List.map_cons, List.map_nil, strip]) | (refine wDrwQ rfl (by kernel_rfl) ?_; simp only [List.map_cons, List.map_nil, strip]) | (refine wDrwI ?_; simp only [List.map_cons, List.map_nil, strip]) | (refine wDrw (by kernel_rfl) ?_; simp only [List.map_cons, List.map_nil, strip]) | (refine wIs fun K hK => ?_; simp [g0, g7, g52, g53, g8, g9, hlt]) | (refine wIn ?_; refine And.intro (by kernel_rfl) ?_; try simp only [thenA_n]) | (refine wOs fun K hK => ?_; simp [g0, g7, g52, g53, g8, g9, hlt]) | (refine wQs fun K hK => ?_; simp [g0, g7, g52, g53, g8, g9, hlt]) | (refine CallK_plain ?_; simp [g0, g7, g52, g53, g8, g9, hlt]) | (refine CallQ_plain ?_; simp [g0, g7, g52, g53, g8, g9, hlt]) | (refine wRet ?_; try simp) | (refine wCond ?_; simp [g0, g7, g52, g53, g8, g9, hlt]) | (refine wBlock ?_) | (refine wScope ?_) | (refine wLabel ?_; try simp only [thenA_n]) | (refine wExit ?_; try simp) | (refine wSkip ?_; try simp) | (refine wOn ?_; try simp only [thenA_n]) | (refine wQn ?_; try simp only [thenA_n]) | (refine CallE.pure (hc) rfl ?_) | (refine CallE.lent (hc) rfl ?_) | (refine CallF.pure (hc) rfl ?_) | (refine CallF.lent (hc) rfl ?_) | (refine CallE.own (hc) ?_) | (refine CallE.pure (awake07) rfl ?_) | (refine CallE.lent (awake07) rfl ?_) | (refine CallF.pure (awake07) rfl ?_) | (refine CallF.lent (awake07) rfl ?_) | (refine CallE.own (awake07) ?_)
      all_goals apply hr
      all_goals simp [Try.f7]
end Go.Proofs.Ytpadfoaigbfekaa
