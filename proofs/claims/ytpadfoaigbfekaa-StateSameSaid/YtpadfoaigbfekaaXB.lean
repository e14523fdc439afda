/- States: a number taken out of a row of the call's own. -/
import Derived.Test.YtpadfoaigbfekaaXA
namespace Go.Proofs.Ytpadfoaigbfekaa
set_option linter.unusedSimpArgs false
set_option linter.unusedVariables false
open Go Go.Av
attribute [local simp] Try.T1 Try.T2 Try.T3 Try.T4 Try.T5 Try.T9 Try.T12 Try.T21 Try.T22 Try.T24 Try.T25 Try.T26 Try.T27 Try.T28 Try.T29 Try.T30 Try.T31 Try.T33 Try.T34 Try.T35 Try.T36 Try.T37 Try.T38 Try.T39 Try.T41 Try.T42 Try.T43 Try.T44 Try.T46 Try.T47 Try.T49 Try.T51 Try.T52 Try.T53 Try.T54 Try.T56 Try.T57 Try.T58 Try.T59 Try.T60 Try.T62 Try.T64 Try.T65 Try.T66 Try.T67 Try.T68 Try.T69 Try.T70 Try.T71 Try.T72 Try.T73 Try.T75 Try.T76 Try.T77 Try.T78 Try.T79 Try.T80 Try.T82 Try.T83 Try.T84 Try.T85 Try.T87 Try.T88 Try.T89 Try.T90 Try.T91 Try.T92 Try.T93 Try.T94 Try.T95 Try.T96 Try.T97 Try.T98 Try.T99 Try.T100 Try.T102 Try.T103 Try.T104 Try.T105 Try.T106 Try.T107 Try.T109 Try.T110 Try.T111 Try.T112 Try.T113 Try.T114 Try.T115 Try.T116 Try.T117 Try.T123 Try.T126
attribute [local irreducible] Go.Av.CallK Go.Av.CallE Go.Av.CallQ Go.Av.CallF Go.Av.CallR Go.Av.CallH Go.Av.Con

theorem wrapX (k n : Nat) (h : k < n) (hn : n ≤ 9223372036854775807) : IntKind.i64.wrap ((k : Int) + 1) = ((k + 1 : Nat) : Int) := by
  rw [wrap_id] <;> omega
def zis (l : List Int) : List (List PV) := l.map fun x => [I x]
@[simp] theorem zis_len (l : List Int) : (zis l).length = l.length := by simp [zis]
@[simp] theorem zis_getElem (l : List Int) (k : Nat) (h : k < (zis l).length) : (zis l)[k] = [I (l[k]'(by simpa using h))] := by simp [zis]
theorem zis_get {l : List Int} {k : Nat} (h : k < l.length) : (zis l)[k]? = some [I l[k]] := by simp [zis, h]
theorem zis_set (l : List Int) (k : Nat) (x : Int) : (zis l).set k [I x] = zis (l.set k x) := by simp [zis]
theorem zis_take (l : List Int) (k : Nat) : (zis l).take k = zis (l.take k) := by simp [zis, List.map_take]
theorem zis_app (l m : List Int) : zis l ++ zis m = zis (l ++ m) := by simp [zis]
theorem without1_con (x n : Int) : Con Try.prog 88 [.p (I x), .ptr 1024 0] [.box 3 [.p (I n)]] (.ret (.p (B (decide (x = n)))) [] [.box 3 [.p (I n)]]) := by
  by_cases h : x = n
  all_goals refine wBodyG Try.tab Try.mixed Try.func88 rfl rfl Try.ntmps88 (by simp) (by simp) fun Q hr hn hp => ?_
  all_goals repeat' first | (refine hK _ ?_; clear hK) | (refine hK _ _ ?_; clear hK) | (clear hK; refine hK _ ?_; clear hK) | (clear hK; clear hK; refine hK _ ?_; clear hK) | (clear hK; clear hK; clear hK; refine hK _ ?_; clear hK) | (clear hK; clear hK; clear hK; clear hK; refine hK _ ?_; clear hK) | (refine wSeq fun K hK => ?_) | ((first | refine wReg ?_ | refine wDrwQ rfl (by kernel_rfl) ?_ | refine wDrwI ?_ | refine wDrw (by kernel_rfl) ?_); simp only [List.map_cons, List.map_nil, strip]) | ((first | refine wIs fun K hK => ?_ | refine wOs fun K hK => ?_ | refine wQs fun K hK => ?_ | refine CallK_plain ?_ | refine CallQ_plain ?_ | refine CallR_plain ?_ | refine wCond ?_); simp [h]) | (refine wIn ?_; refine And.intro (by kernel_rfl) ?_; try simp only [thenA_n]) | (first | refine wBlock ?_ | refine wScope ?_) | ((first | refine wRet ?_ | refine wExit ?_ | refine wSkip ?_); try simp) | ((first | refine wLabel ?_ | refine wOn ?_ | refine wQn ?_); try simp only [thenA_n])
  all_goals apply hr
  all_goals refine ⟨[], by simp, by simp, ?_⟩
  all_goals simp [Try.f88, outR, outB, renB, h]
def fi (l : List Int) (n : Int) : Nat := l.findIdx (· == n)
theorem fi_le (l : List Int) (n : Int) : fi l n ≤ l.length := List.findIdx_le_length
theorem fi_of {l : List Int} {n : Int} {k : Nat} (hk : k < l.length) (h : l[k] = n) (hb : ∀ j (hj : j < k), ¬ l[j]'(by omega) = n) : fi l n = k := by
  unfold fi
  rw [List.findIdx_eq hk]
  exact ⟨by simpa using h, fun j hj => by simpa using hb j hj⟩
theorem fi_none {l : List Int} {n : Int} (hb : ∀ j (hj : j < l.length), ¬ l[j] = n) : fi l n = l.length := by
  unfold fi
  rw [List.findIdx_eq_length]
  intro x hx
  obtain ⟨j, hj, rfl⟩ := List.getElem_of_mem hx
  simpa using hb j hj
def fiV (l : List Int) (n : Int) : Int := if fi l n = l.length then -1 else fi l n
theorem indexF_con (l : List Int) (n : Int) (hl : l.length ≤ 1000000) :
    Con Try.prog 94 [.p (.sl 1 (zis l)), .clo 88 [.box 1024]] [.box 3 [.p (I n)]] (.ret (.p (I (fiV l n))) [] [.box 3 [.p (I n)]]) := by
  refine wBodyG Try.tab Try.mixed Try.func94 rfl rfl Try.ntmps94 (by simp) (by simp) fun Q hr hn hp => ?_
  repeat' first | (refine hK _ ?_; clear hK) | (refine hK _ _ ?_; clear hK) | (clear hK; refine hK _ ?_; clear hK) | (clear hK; clear hK; refine hK _ ?_; clear hK) | (clear hK; clear hK; clear hK; refine hK _ ?_; clear hK) | (clear hK; clear hK; clear hK; clear hK; refine hK _ ?_; clear hK) | (refine wSeq fun K hK => ?_) | ((first | refine wReg ?_ | refine wDrwQ rfl (by kernel_rfl) ?_ | refine wDrwI ?_ | refine wDrw (by kernel_rfl) ?_); simp only [List.map_cons, List.map_nil, strip]) | ((first | refine wIs fun K hK => ?_ | refine wOs fun K hK => ?_ | refine wQs fun K hK => ?_ | refine CallK_plain ?_ | refine CallQ_plain ?_ | refine CallR_plain ?_ | refine wCond ?_); simp) | (refine wIn ?_; refine And.intro (by kernel_rfl) ?_; try simp only [thenA_n]) | (first | refine wBlock ?_ | refine wScope ?_) | ((first | refine wRet ?_ | refine wExit ?_ | refine wSkip ?_); try simp) | ((first | refine wLabel ?_ | refine wOn ?_ | refine wQn ?_); try simp only [thenA_n])
  refine wLoop (fun N st => ∃ k, k + N = l.length ∧ st.s 0 = .p (.sl 1 (zis l)) ∧ st.s 1 = .clo 88 [.box 1024] ∧ st.s 7 = .p (I l.length) ∧ st.s 8 = .p (I k) ∧ st.b 1024 = some (.box 3 [.p (I n)]) ∧ ∀ j (hj : j < k) (hjl : j < l.length), ¬ l[j] = n) l.length ⟨0, by simp⟩ fun K N st hL ⟨k, hk, g0, g1, g7, g8, b1, hi⟩ => ?_
  by_cases hlt : k < l.length
  · have hw := wrapX k _ hlt (by omega)
    have he := zis_get hlt
    have hx := without1_con l[k] n
    by_cases o : l[k] = n
    · have hf : fiV l n = k := by
        have := fi_of hlt o fun j hj => hi j hj (by omega)
        unfold fiV; rw [this, if_neg (by omega)]
      rw [hf] at hr
      replace o : decide (l[k] = n) = true := decide_eq_true o
      rw [o] at hx
      repeat' first | (refine CallK_read [1024] hx (by decide) (by decide) (by simp [b1]) (by simp [argG, ren0, inN, pos, renCs, renC]) rfl ?_; simp [g0, g1, g7, g8, b1]) | (refine hK _ ?_; clear hK) | (refine hK _ _ ?_; clear hK) | (clear hK; refine hK _ ?_; clear hK) | (clear hK; clear hK; refine hK _ ?_; clear hK) | (clear hK; clear hK; clear hK; refine hK _ ?_; clear hK) | (clear hK; clear hK; clear hK; clear hK; refine hK _ ?_; clear hK) | (refine wSeq fun K hK => ?_) | ((first | refine wReg ?_ | refine wDrwQ rfl (by kernel_rfl) ?_ | refine wDrwI ?_ | refine wDrw (by kernel_rfl) ?_); simp only [List.map_cons, List.map_nil, strip]) | ((first | refine wIs fun K hK => ?_ | refine wOs fun K hK => ?_ | refine wQs fun K hK => ?_ | refine CallK_plain ?_ | refine CallQ_plain ?_ | refine CallR_plain ?_ | refine wCond ?_); simp [g0, g1, g7, g8, b1, hlt, hw, he]) | (refine wIn ?_; refine And.intro (by kernel_rfl) ?_; try simp only [thenA_n]) | (first | refine wBlock ?_ | refine wScope ?_) | ((first | refine wRet ?_ | refine wExit ?_ | refine wSkip ?_); try simp) | ((first | refine wLabel ?_ | refine wOn ?_ | refine wQn ?_); try simp only [thenA_n])
      all_goals apply hr
      all_goals refine ⟨[], by simp, by simp, ?_⟩
      all_goals simp [Try.f94, outR, outB, renB, g0, g1, g7, g8, b1]
    · have o' : decide (l[k] = n) = false := decide_eq_false o
      rw [o'] at hx
      repeat' first | (refine CallK_read [1024] hx (by decide) (by decide) (by simp [b1]) (by simp [argG, ren0, inN, pos, renCs, renC]) rfl ?_; simp [g0, g1, g7, g8, b1]) | (refine hK _ ?_; clear hK) | (refine hK _ _ ?_; clear hK) | (clear hK; refine hK _ ?_; clear hK) | (clear hK; clear hK; refine hK _ ?_; clear hK) | (clear hK; clear hK; clear hK; refine hK _ ?_; clear hK) | (clear hK; clear hK; clear hK; clear hK; refine hK _ ?_; clear hK) | (refine wSeq fun K hK => ?_) | ((first | refine wReg ?_ | refine wDrwQ rfl (by kernel_rfl) ?_ | refine wDrwI ?_ | refine wDrw (by kernel_rfl) ?_); simp only [List.map_cons, List.map_nil, strip]) | ((first | refine wIs fun K hK => ?_ | refine wOs fun K hK => ?_ | refine wQs fun K hK => ?_ | refine CallK_plain ?_ | refine CallQ_plain ?_ | refine CallR_plain ?_ | refine wCond ?_); simp [g0, g1, g7, g8, b1, hlt, hw, he]) | (refine wIn ?_; refine And.intro (by kernel_rfl) ?_; try simp only [thenA_n]) | (first | refine wBlock ?_ | refine wScope ?_) | ((first | refine wRet ?_ | refine wExit ?_ | refine wSkip ?_); try simp) | ((first | refine wLabel ?_ | refine wOn ?_ | refine wQn ?_); try simp only [thenA_n])
      refine hL _ (N - 1) (by omega) ⟨k + 1, by omega, ?_⟩
      simp [g0, g1, g7, g8, b1, hw]
      intro j hj hjl
      by_cases hjk : j = k
      · subst hjk; exact o
      · exact hi j (by omega) hjl
  · have hf : fiV l n = -1 := by
      have := fi_none (l := l) (n := n) fun j hj => hi j (by omega) hj
      unfold fiV; rw [if_pos this]
    rw [hf] at hr
    repeat' first | (refine hK _ ?_; clear hK) | (refine hK _ _ ?_; clear hK) | (clear hK; refine hK _ ?_; clear hK) | (clear hK; clear hK; refine hK _ ?_; clear hK) | (clear hK; clear hK; clear hK; refine hK _ ?_; clear hK) | (clear hK; clear hK; clear hK; clear hK; refine hK _ ?_; clear hK) | (refine wSeq fun K hK => ?_) | ((first | refine wReg ?_ | refine wDrwQ rfl (by kernel_rfl) ?_ | refine wDrwI ?_ | refine wDrw (by kernel_rfl) ?_); simp only [List.map_cons, List.map_nil, strip]) | ((first | refine wIs fun K hK => ?_ | refine wOs fun K hK => ?_ | refine wQs fun K hK => ?_ | refine CallK_plain ?_ | refine CallQ_plain ?_ | refine CallR_plain ?_ | refine wCond ?_); simp [g0, g1, g7, g8, b1, hlt]) | (refine wIn ?_; refine And.intro (by kernel_rfl) ?_; try simp only [thenA_n]) | (first | refine wBlock ?_ | refine wScope ?_) | ((first | refine wRet ?_ | refine wExit ?_ | refine wSkip ?_); try simp) | ((first | refine wLabel ?_ | refine wOn ?_ | refine wQn ?_); try simp only [thenA_n])
    all_goals apply hr
    all_goals refine ⟨[], by simp, by simp, ?_⟩
    all_goals simp [Try.f94, outR, outB, renB, g0, g1, g7, g8, b1]
/-- The numbers but one. -/
def but (l : List Int) (n : Int) : List Int := l.filter fun x => !decide (x = n)
theorem but_snoc {l : List Int} {k : Nat} (h : k < l.length) (n : Int) : but (l.take (k + 1)) n = if l[k] = n then but (l.take k) n else but (l.take k) n ++ [l[k]] := by
  rw [List.take_succ_eq_append_getElem h]
  unfold but
  rw [List.filter_append]
  by_cases g : l[k] = n <;> simp [g]
theorem but_len (l : List Int) (n : Int) : (but l n).length ≤ l.length := List.length_filter_le _ _
theorem but_id {l : List Int} {n : Int} (h : fi l n = l.length) : but l n = l := by
  unfold fi at h
  rw [List.findIdx_eq_length] at h
  unfold but
  rw [List.filter_eq_self]
  intro x hx
  have := h x hx
  simpa using this
theorem but_fi {l : List Int} {n : Int} (h : fi l n < l.length) : but (l.take (fi l n + 1)) n = l.take (fi l n) := by
  have h1 : l[fi l n] = n := by
    have := List.findIdx_getElem (p := (· == n)) (xs := l) (w := h)
    exact eq_of_beq this
  rw [but_snoc h, if_pos h1]
  unfold but
  rw [List.filter_eq_self]
  intro x hx
  obtain ⟨j, hj, rfl⟩ := List.getElem_of_mem hx
  rw [List.getElem_take]
  have hj' : j < fi l n := by simp at hj; omega
  have := List.not_of_lt_findIdx (p := (· == n)) (xs := l) hj'
  simpa using this
set_option maxHeartbeats 1000000 in
theorem deleteF_con (l : List Int) (n : Int) (hl : l.length ≤ 1000000) :
    Con Try.prog 87 [.row 1024, .clo 88 [.box 1025]] [.row 3 1 (zis l), .box 3 [.p (I n)]] (.ret (.row 1024) [] [.row 3 1 (zis (but l n)), .box 3 [.p (I n)]]) := by
  have hc := indexF_con l n hl
  by_cases hf : fi l n = l.length
  · have hv : fiV l n = -1 := by unfold fiV; rw [if_pos hf]
    rw [hv] at hc
    rw [but_id hf]
    refine wBodyG Try.tab Try.mixed Try.func87 rfl rfl Try.ntmps87 (by simp) (by simp) fun Q hr hn hp => ?_
    repeat' first | (refine CallK_read [1025] hc (by decide) (by decide) (by simp []) (by simp [argG, ren0, inN, pos, renCs, renC]) rfl ?_; simp []) | (refine hK _ ?_; clear hK) | (refine hK _ _ ?_; clear hK) | (clear hK; refine hK _ ?_; clear hK) | (clear hK; clear hK; refine hK _ ?_; clear hK) | (clear hK; clear hK; clear hK; refine hK _ ?_; clear hK) | (clear hK; clear hK; clear hK; clear hK; refine hK _ ?_; clear hK) | (refine wSeq fun K hK => ?_) | ((first | refine wReg ?_ | refine wDrwQ rfl (by kernel_rfl) ?_ | refine wDrwI ?_ | refine wDrw (by kernel_rfl) ?_); simp only [List.map_cons, List.map_nil, strip]) | ((first | refine wIs fun K hK => ?_ | refine wOs fun K hK => ?_ | refine wQs fun K hK => ?_ | refine CallK_plain ?_ | refine CallQ_plain ?_ | refine CallR_plain ?_ | refine wCond ?_); simp) | (refine wIn ?_; refine And.intro (by kernel_rfl) ?_; try simp only [thenA_n]) | (first | refine wBlock ?_ | refine wScope ?_) | ((first | refine wRet ?_ | refine wExit ?_ | refine wSkip ?_); try simp) | ((first | refine wLabel ?_ | refine wOn ?_ | refine wQn ?_); try simp only [thenA_n])
    all_goals apply hr
    all_goals refine ⟨[], by simp, by simp, ?_⟩
    all_goals simp [Try.f87, outR, outB, renB, gaN]
  · have hlt0 : fi l n < l.length := Nat.lt_of_le_of_ne (fi_le l n) hf
    have hv : fiV l n = fi l n := by unfold fiV; rw [if_neg hf]
    have hne : ¬ ((fi l n : Nat) : Int) = -1 := by omega
    have hw0 := wrapX (fi l n) _ hlt0 (by omega)
    rw [hv] at hc
    have hst := but_fi hlt0
    generalize fi l n = i0 at *
    refine wBodyG Try.tab Try.mixed Try.func87 rfl rfl Try.ntmps87 (by simp) (by simp) fun Q hr hn hp => ?_
    repeat' first | (refine CallK_read [1025] hc (by decide) (by decide) (by simp []) (by simp [argG, ren0, inN, pos, renCs, renC]) rfl ?_; simp []) | (refine hK _ ?_; clear hK) | (refine hK _ _ ?_; clear hK) | (clear hK; refine hK _ ?_; clear hK) | (clear hK; clear hK; refine hK _ ?_; clear hK) | (clear hK; clear hK; clear hK; refine hK _ ?_; clear hK) | (clear hK; clear hK; clear hK; clear hK; refine hK _ ?_; clear hK) | (refine wSeq fun K hK => ?_) | ((first | refine wReg ?_ | refine wDrwQ rfl (by kernel_rfl) ?_ | refine wDrwI ?_ | refine wDrw (by kernel_rfl) ?_); simp only [List.map_cons, List.map_nil, strip]) | ((first | refine wIs fun K hK => ?_ | refine wOs fun K hK => ?_ | refine wQs fun K hK => ?_ | refine CallK_plain ?_ | refine CallQ_plain ?_ | refine CallR_plain ?_ | refine wCond ?_); simp [hne, hw0]) | (refine wIn ?_; refine And.intro (by kernel_rfl) ?_; try simp only [thenA_n]) | (first | refine wBlock ?_ | refine wScope ?_) | ((first | refine wRet ?_ | refine wExit ?_ | refine wSkip ?_); try simp) | ((first | refine wLabel ?_ | refine wOn ?_ | refine wQn ?_); try simp only [thenA_n])
    refine wLoop (fun N st => ∃ (i j : Nat) (L : List Int), j + N = l.length ∧ i < j ∧ L.length = l.length ∧ but (l.take j) n = L.take i ∧ (∀ q, j ≤ q → L[q]? = l[q]?) ∧ st.s 0 = .row 1024 ∧ st.s 1 = .clo 88 [.box 1025] ∧ st.s 5 = .p (I i) ∧ st.s 6 = .p (I j) ∧ st.b 1024 = some (.row 3 1 (zis L)) ∧ st.b 1025 = some (.box 3 [.p (I n)])) (l.length - (i0 + 1)) ⟨i0, i0 + 1, l, by omega, by omega, rfl, hst, fun _ _ => rfl, by simp⟩ fun K N st hL ⟨i, j, L, hk, hij, hLl, hB, hT, g0, g1, g5, g6, b0, b1⟩ => ?_
    by_cases hlt : j < l.length
    · have hw := wrapX j _ hlt (by omega)
      have hwi := wrapX i l.length (by omega) (by omega)
      have hjL : j < L.length := by omega
      have hiL : i < L.length := by omega
      have he := zis_get hjL
      have hej : L[j] = l[j] := by
        have := hT j (Nat.le_refl _)
        rw [List.getElem?_eq_getElem hjL, List.getElem?_eq_getElem hlt] at this
        simpa using this
      have hei := zis_get hiL
      have hil : i < l.length := by omega
      have hx := without1_con L[j] n
      have hs := but_snoc hlt n
      rw [← hej] at hs
      have hset := zis_set L i L[j]
      by_cases o : L[j] = n
      · rw [if_pos o] at hs
        replace o : decide (L[j] = n) = true := decide_eq_true o
        rw [o] at hx
        repeat' first | (refine CallK_read [1025] hx (by decide) (by decide) (by simp [b1]) (by simp [argG, ren0, inN, pos, renCs, renC]) rfl ?_; simp [g0, g1, g5, g6, b0, b1]) | (refine hK _ ?_; clear hK) | (refine hK _ _ ?_; clear hK) | (clear hK; refine hK _ ?_; clear hK) | (clear hK; clear hK; refine hK _ ?_; clear hK) | (clear hK; clear hK; clear hK; refine hK _ ?_; clear hK) | (clear hK; clear hK; clear hK; clear hK; refine hK _ ?_; clear hK) | (refine wSeq fun K hK => ?_) | ((first | refine wReg ?_ | refine wDrwQ rfl (by kernel_rfl) ?_ | refine wDrwI ?_ | refine wDrw (by kernel_rfl) ?_); simp only [List.map_cons, List.map_nil, strip]) | ((first | refine wIs fun K hK => ?_ | refine wOs fun K hK => ?_ | refine wQs fun K hK => ?_ | refine CallK_plain ?_ | refine CallQ_plain ?_ | refine CallR_plain ?_ | refine wCond ?_); simp [g0, g1, g5, g6, b0, b1, hlt, hw, he, hLl, hjL]) | (refine wIn ?_; refine And.intro (by kernel_rfl) ?_; try simp only [thenA_n]) | (first | refine wBlock ?_ | refine wScope ?_) | ((first | refine wRet ?_ | refine wExit ?_ | refine wSkip ?_); try simp) | ((first | refine wLabel ?_ | refine wOn ?_ | refine wQn ?_); try simp only [thenA_n])
        refine hL _ (N - 1) (by omega) ⟨i, j + 1, L, by omega, by omega, hLl, by rw [hs]; exact hB, fun q hq => hT q (by omega), ?_⟩
        simp [g0, g1, g5, g6, b0, b1, hw]
      · rw [if_neg o, hB] at hs
        replace o : decide (L[j] = n) = false := decide_eq_false o
        rw [o] at hx
        repeat' first | (refine CallK_read [1025] hx (by decide) (by decide) (by simp [b1]) (by simp [argG, ren0, inN, pos, renCs, renC]) rfl ?_; simp [g0, g1, g5, g6, b0, b1]) | (refine hK _ ?_; clear hK) | (refine hK _ _ ?_; clear hK) | (clear hK; refine hK _ ?_; clear hK) | (clear hK; clear hK; refine hK _ ?_; clear hK) | (clear hK; clear hK; clear hK; refine hK _ ?_; clear hK) | (clear hK; clear hK; clear hK; clear hK; refine hK _ ?_; clear hK) | (refine wSeq fun K hK => ?_) | ((first | refine wReg ?_ | refine wDrwQ rfl (by kernel_rfl) ?_ | refine wDrwI ?_ | refine wDrw (by kernel_rfl) ?_); simp only [List.map_cons, List.map_nil, strip]) | ((first | refine wIs fun K hK => ?_ | refine wOs fun K hK => ?_ | refine wQs fun K hK => ?_ | refine CallK_plain ?_ | refine CallQ_plain ?_ | refine CallR_plain ?_ | refine wCond ?_); simp [g0, g1, g5, g6, b0, b1, hlt, hw, hwi, he, hei, hLl, hjL, hiL, hil, hset]) | (refine wIn ?_; refine And.intro (by kernel_rfl) ?_; try simp only [thenA_n]) | (first | refine wBlock ?_ | refine wScope ?_) | ((first | refine wRet ?_ | refine wExit ?_ | refine wSkip ?_); try simp) | ((first | refine wLabel ?_ | refine wOn ?_ | refine wQn ?_); try simp only [thenA_n])
        refine hL _ (N - 1) (by omega) ⟨i + 1, j + 1, L.set i L[j], by omega, by omega, by simpa using hLl, ?_, fun q hq => ?_, ?_⟩
        · rw [hs, List.take_succ_eq_append_getElem (by simpa using hiL), List.take_set_of_le (Nat.le_refl _), List.getElem_set_self]
        · rw [List.getElem?_set_ne (by omega)]; exact hT q (by omega)
        · simp [g0, g1, g5, g6, b0, b1, hw, hwi, hset]
    · obtain rfl : j = l.length := by omega
      rw [List.take_of_length_le (Nat.le_refl _)] at hB
      have hiL : i < L.length := by omega
      have hiL' : i ≤ L.length := by omega
      have ht := zis_take L i
      have hfin : ∀ z : List (List PV), (List.take i (zis L) ++ z).take i = zis (but l n) := fun z => by
        have h1 : (zis L).take i = zis (L.take i) := zis_take L i
        rw [h1, hB, List.take_append_of_le_length (by simp; omega), List.take_of_length_le (by simp; omega)]
      repeat' first | (refine And.intro (by (try simp); omega) ?_) | (refine hK _ ?_; clear hK) | (refine hK _ _ ?_; clear hK) | (clear hK; refine hK _ ?_; clear hK) | (clear hK; clear hK; refine hK _ ?_; clear hK) | (clear hK; clear hK; clear hK; refine hK _ ?_; clear hK) | (clear hK; clear hK; clear hK; clear hK; refine hK _ ?_; clear hK) | (refine wSeq fun K hK => ?_) | ((first | refine wReg ?_ | refine wDrwQ rfl (by kernel_rfl) ?_ | refine wDrwI ?_ | refine wDrw (by kernel_rfl) ?_); simp only [List.map_cons, List.map_nil, strip]) | ((first | refine wIs fun K hK => ?_ | refine wOs fun K hK => ?_ | refine wQs fun K hK => ?_ | refine CallK_plain ?_ | refine CallQ_plain ?_ | refine CallR_plain ?_ | refine wCond ?_); simp [g0, g1, g5, g6, b0, b1, hLl, hiL, hiL', hij]) | (refine wIn ?_; refine And.intro (by kernel_rfl) ?_; try simp only [thenA_n]) | (first | refine wBlock ?_ | refine wScope ?_) | ((first | refine wRet ?_ | refine wExit ?_ | refine wSkip ?_); try simp) | ((first | refine wLabel ?_ | refine wOn ?_ | refine wQn ?_); try simp only [thenA_n])
      rw [hfin]
      repeat' first | (refine hK _ ?_; clear hK) | (refine hK _ _ ?_; clear hK) | (clear hK; refine hK _ ?_; clear hK) | (clear hK; clear hK; refine hK _ ?_; clear hK) | (clear hK; clear hK; clear hK; refine hK _ ?_; clear hK) | (clear hK; clear hK; clear hK; clear hK; refine hK _ ?_; clear hK) | (refine wSeq fun K hK => ?_) | ((first | refine wReg ?_ | refine wDrwQ rfl (by kernel_rfl) ?_ | refine wDrwI ?_ | refine wDrw (by kernel_rfl) ?_); simp only [List.map_cons, List.map_nil, strip]) | ((first | refine wIs fun K hK => ?_ | refine wOs fun K hK => ?_ | refine wQs fun K hK => ?_ | refine CallK_plain ?_ | refine CallQ_plain ?_ | refine CallR_plain ?_ | refine wCond ?_); simp) | (refine wIn ?_; refine And.intro (by kernel_rfl) ?_; try simp only [thenA_n]) | (first | refine wBlock ?_ | refine wScope ?_) | ((first | refine wRet ?_ | refine wExit ?_ | refine wSkip ?_); try simp) | ((first | refine wLabel ?_ | refine wOn ?_ | refine wQn ?_); try simp only [thenA_n])
      all_goals apply hr
      all_goals refine ⟨[], by simp, by simp, ?_⟩
      all_goals simp [Try.f87, outR, outB, renB, gaN, b1]
end Go.Proofs.Ytpadfoaigbfekaa
