/- Texts that the proof needs: LK2 RGO Upto LinkO LG1. -/
import Derived.Test.YtechjohebkcjiaaP23LinkTakes
import Derived.Test.YtechjohebkcjiaaP20LinkTakes
import Derived.Test.YtechjohebkcjiaaP22LinkTakes
import Derived.Test.YtechjohebkcjiaaRows
/- Messages on their way: lists of them, copied, sifted. -/
namespace Go.Proofs.Ytechjohebkcjiaa
set_option linter.unusedSimpArgs false
set_option linter.unusedVariables false
set_option maxRecDepth 8000
open Go Go.Av
attribute [local simp] Try.T1 Try.T2 Try.T3 Try.T4 Try.T5 Try.T9 Try.T12 Try.T15 Try.T16 Try.T17 Try.T21 Try.T22 Try.T23 Try.T24 Try.T25 Try.T27 Try.T29 Try.T30 Try.T31 Try.T32 Try.T33 Try.T35 Try.T37 Try.T38 Try.T40 Try.T41 Try.T42 Try.T44 Try.T45 Try.T47 Try.T49 Try.T51 Try.T53 Try.T54 Try.T55 Try.T56 Try.T57 Try.T58 Try.T59 Try.T60 Try.T61 Try.T62 Try.T63 Try.T64 Try.T66 Try.T67 Try.T68 Try.T69 Try.T70 Try.T72 Try.T74 Try.T76 Try.T77 Try.T78 Try.T79 Try.T80 Try.T81 Try.T82 Try.T83 Try.T84 Try.T85 Try.T87 Try.T88 Try.T89 Try.T90 Try.T91 Try.T92 Try.T93 Try.T94 Try.T96 Try.T97 Try.T98 Try.T99 Try.T100 Try.T101 Try.T102 Try.T103 Try.T104 Try.T105 Try.T106 Try.T107 Try.T108 Try.T109 Try.T110 Try.T111 Try.T113 Try.T114 Try.T115 Try.T116 Try.T117 Try.T118 Try.T119 Try.T120 Try.T121 Try.T122 Try.T123 Try.T124 Try.T125 Try.T126 Try.T127 Try.T128 Try.T129 Try.T130 Try.T133 Try.T136 Try.T137 Try.T140 Try.T141
attribute [local irreducible] Go.Av.CallK Go.Av.CallE Go.Av.CallQ Go.Av.CallF Go.Av.CallR Go.Av.CallH Go.Av.Con
/-- A message: from, to, and the rest of it. -/
structure Mq where
  (fr to : Int)
  (r : List PV)
  h : r.length = 44
def Mq.cells (m : Mq) : List PV := I m.fr :: I m.to :: m.r
def mqs (l : List Mq) : List (List PV) := l.map Mq.cells
theorem Mq.of {r : List PV} (h : fMs.ok r) : ∃ m : Mq, r = m.cells := by
  obtain ⟨m0, m1, m2, m3, m4, m5, m6, m7, m8, m9, m10, m11, m12, m13, m14, m15, m16, m17, m18, m19, m20, m21, m22, m23, m24, m25, m26, m27, m28, m29, m30, m31, m32, m33, m34, m35, m36, m37, m38, m39, m40, m41, m42, m43, m44, m45, rfl, -⟩ := fMs_sh h
  exact ⟨⟨m0, m1, _, rfl⟩, rfl⟩
/-- What may be on its way. -/
structure OkM (m : Mq) : Prop where
  ok : fMs.ok m.cells
  z : Zs m.cells
theorem mqs_of {rows : List (List PV)} (ho : ∀ r ∈ rows, fMs.ok r) : ∃ l : List Mq, rows = mqs l := by
  induction rows with
  | nil => exact ⟨[], rfl⟩
  | cons r rows ih =>
    obtain ⟨m, rfl⟩ := Mq.of (ho r List.mem_cons_self)
    obtain ⟨l, rfl⟩ := ih fun r hr => ho r (List.mem_cons_of_mem _ hr)
    exact ⟨m :: l, rfl⟩
@[simp] theorem mqs_len (l : List Mq) : (mqs l).length = l.length := by simp [mqs]
theorem mqs_get {l : List Mq} {k : Nat} (h : k < l.length) : (mqs l)[k]? = some l[k].cells := by simp [mqs, h]
@[simp] theorem mqs_getElem (l : List Mq) (k : Nat) (h : k < (mqs l).length) : (mqs l)[k] = (l[k]'(by simpa using h)).cells := by simp [mqs]
theorem mqs_snoc (l : List Mq) (m : Mq) : mqs l ++ [m.cells] = mqs (l ++ [m]) := by simp [mqs]
theorem mqs_app (l m : List Mq) : mqs l ++ mqs m = mqs (l ++ m) := by simp [mqs]
theorem mqs_take (l : List Mq) (k : Nat) : (mqs l).take k = mqs (l.take k) := by simp [mqs, List.map_take]
theorem mqs_drop (l : List Mq) (k : Nat) : (mqs l).drop k = mqs (l.drop k) := by simp [mqs, List.map_drop]
@[simp high] theorem mq_fr (m : Mq) : m.cells[0]? = some (I m.fr) := rfl
@[simp high] theorem mq_to (m : Mq) : m.cells[1]? = some (I m.to) := rfl
@[simp high] theorem mqg_fr (m : Mq) (h : 0 < m.cells.length) : m.cells[0]'h = I m.fr := rfl
@[simp high] theorem mqg_to (m : Mq) (h : 1 < m.cells.length) : m.cells[1]'h = I m.to := rfl
@[simp] theorem mq_len (m : Mq) : m.cells.length = 46 := by simp [Mq.cells, m.h]
@[simp high] theorem mq_take (m : Mq) : m.cells.take 46 = m.cells := List.take_of_length_le (by simp)
@[simp high] theorem mq_takeV (m : Mq) : (m.cells.map V.p).take 46 = m.cells.map V.p := List.take_of_length_le (by simp)
@[simp high] theorem mq_drop (m : Mq) : m.cells.drop 46 = [] := List.drop_of_length_le (by simp)
@[simp high] theorem mq_toPs : ∀ (l : List PV), toPs (l.map V.p) = some l
  | [] => rfl
  | x :: l => by simp only [List.map_cons, toPs, toP, mq_toPs l]
@[simp high] theorem mq_ren (l : List PV) (r s : Nat → Option Nat) : (l.map V.p).map (ren0 r s) = l.map V.p := by simp [ren0]
@[simp high] theorem mq_scr (l : List PV) (b : Nat) : (l.map V.p).map (scr0 b) = l.map V.p := by simp [scr0]
@[simp high] theorem mq_sub (l : List PV) (b : Nat) (q : PV) : (l.map V.p).map (sub0 b q) = l.map V.p := by simp [sub0]
@[simp high] theorem mq_renC (l : List PV) (r s : Nat → Option Nat) : l.map (ren0 r s ∘ V.p) = l.map V.p := rfl
@[simp high] theorem mq_scrC (l : List PV) (b : Nat) : l.map (scr0 b ∘ V.p) = l.map V.p := rfl
@[simp high] theorem mq_subC (l : List PV) (b : Nat) (q : PV) : l.map (sub0 b q ∘ V.p) = l.map V.p := rfl
set_option maxHeartbeats 2000000 in
theorem olMs (l : List Mq) (ho : ∀ m ∈ l, OkM m) (hl : l.length ≤ 1048576) : RConX 22 [.p (.sl 46 (mqs l)), .p (.v (.func (.func 23) #[] #[]))] 51 46 (mqs l) := by
  by_cases h0 : l.length = 0
  · obtain rfl := List.length_eq_zero_iff.1 h0
    refine wBodyR Try.tab Try.mixed Try.func22 rfl rfl Try.ntmps22 rfl (by simp) (by simp) fun Q hr hn => ?_
    repeat' first | (refine wRetG [.row 4 51 46] ?_) | (refine hK _ ?_; clear hK) | (refine hK _ _ ?_; clear hK) | (clear hK; refine hK _ ?_; clear hK) | (clear hK; clear hK; refine hK _ ?_; clear hK) | (clear hK; clear hK; clear hK; refine hK _ ?_; clear hK) | (clear hK; clear hK; clear hK; clear hK; refine hK _ ?_; clear hK) | (refine wSeq fun K hK => ?_) | ((first | refine wReg ?_ | refine wDrwQ rfl (by kernel_rfl) ?_ | refine wDrwI ?_ | refine wDrw (by kernel_rfl) ?_); simp only [List.map_cons, List.map_nil, strip]) | ((first | refine wIs fun K hK => ?_ | refine wOs fun K hK => ?_ | refine wQs fun K hK => ?_ | refine CallK_plain ?_ | refine CallQ_plain ?_ | refine CallR_plain ?_ | refine wCond ?_); simp [mqs]) | (refine wIn ?_; refine And.intro (by kernel_rfl) ?_; try simp only [thenA_n]) | (first | refine wBlock ?_ | refine wScope ?_) | ((first | refine wRet ?_ | refine wExit ?_ | refine wSkip ?_); try simp) | ((first | refine wLabel ?_ | refine wOn ?_ | refine wQn ?_); try simp only [thenA_n])
    all_goals refine hr _ 4 (by simp) (by simp [mqs]) (by omega)
  have h0' : ¬ (l.length : Int) = 0 := by omega
  refine wBodyR Try.tab Try.mixed Try.func22 rfl rfl Try.ntmps22 rfl (by simp) (by simp) fun Q hr hn => ?_
  repeat' first | (rw [if_pos ⟨by omega, by omega⟩]) | (refine hK _ ?_; clear hK) | (refine hK _ _ ?_; clear hK) | (clear hK; refine hK _ ?_; clear hK) | (clear hK; clear hK; refine hK _ ?_; clear hK) | (clear hK; clear hK; clear hK; refine hK _ ?_; clear hK) | (clear hK; clear hK; clear hK; clear hK; refine hK _ ?_; clear hK) | (refine wSeq fun K hK => ?_) | ((first | refine wReg ?_ | refine wDrwQ rfl (by kernel_rfl) ?_ | refine wDrwI ?_ | refine wDrw (by kernel_rfl) ?_); simp only [List.map_cons, List.map_nil, strip]) | ((first | refine wIs fun K hK => ?_ | refine wOs fun K hK => ?_ | refine wQs fun K hK => ?_ | refine CallK_plain ?_ | refine CallQ_plain ?_ | refine CallR_plain ?_ | refine wCond ?_); simp [h0, h0']) | (refine wIn ?_; refine And.intro (by kernel_rfl) ?_; try simp only [thenA_n]) | (first | refine wBlock ?_ | refine wScope ?_) | ((first | refine wRet ?_ | refine wExit ?_ | refine wSkip ?_); try simp) | ((first | refine wLabel ?_ | refine wOn ?_ | refine wQn ?_); try simp only [thenA_n])
  refine wLoop (fun N st => ∃ k zs, k + N = l.length ∧ zs.length = l.length ∧ (∀ r ∈ zs, r.length = 46) ∧ zs.take k = (mqs l).take k ∧ st.s 1 = .p (.v (.func (.func 23) #[] #[])) ∧ st.s 5 = .row 13 ∧ st.s 14 = .p (.sl 46 (mqs l)) ∧ st.s 15 = .p (I l.length) ∧ st.s 16 = .p (I k) ∧ st.b 13 = some (.row 51 46 zs)) l.length ⟨0, List.replicate l.length [I 0, I 0, I 0, I 0, I 0, I 0, I 0, I 0, I 0, I 0, I 0, I 0, I 0, I 0, .sl 2 [], I 0, I 0, I 0, .sl 5 [], .sl 1 [], I 0, I 0, I 0, I 0, .sl 4 [], I 0, I 0, .sl 8 [], I 0, I 0, I 0, I 0, I 0, I 0, SB [], .sl 11 [], .sl 1 [], I 0, I 0, I 0, .sl 6 [], I 0, .sl 4 [], .sl 1 [], I 0, I 0], by simp [show ByteArray.empty = bs [] from rfl]⟩ fun K N st hL ⟨k, zs, hk, hz1, hzl, hi, g1, g5, g14, g15, g16, b13⟩ => ?_
  by_cases hlt : k < l.length
  · have hlt' : (k : Int) < l.length := by omega
    have hltz : k < zs.length := by omega
    have hzk := hzl _ (List.getElem_mem hltz)
    have hzd : List.drop 46 zs[k] = [] := List.drop_of_length_le (by omega)
    have hltm : k < (mqs l).length := by simpa using hlt
    have hw := wrapS k _ hlt (by omega)
    have he := mqs_get hlt
    have hok := ho _ (List.getElem_mem hlt)
    have c := oMs l[k].cells hok.ok hok.z
    have hst := set_takeR zs k l[k].cells hltz
    rw [hi, show l[k].cells = (mqs l)[k] by simp, ← List.take_succ_eq_append_getElem hltm] at hst
    rw [show (mqs l)[k] = l[k].cells by simp] at hst
    generalize hQ : l[k] = r at *
    repeat' first | (refine hK _ ?_; clear hK) | (refine hK _ _ ?_; clear hK) | (clear hK; refine hK _ ?_; clear hK) | (clear hK; clear hK; refine hK _ ?_; clear hK) | (clear hK; clear hK; clear hK; refine hK _ ?_; clear hK) | (clear hK; clear hK; clear hK; clear hK; refine hK _ ?_; clear hK) | (refine wSeq fun K hK => ?_) | ((first | refine wReg ?_ | refine wDrwQ rfl (by kernel_rfl) ?_ | refine wDrwI ?_ | refine wDrw (by kernel_rfl) ?_); simp only [List.map_cons, List.map_nil, strip]) | ((first | refine wIs fun K hK => ?_ | refine wOs fun K hK => ?_ | refine wQs fun K hK => ?_ | refine CallK_plain ?_ | refine CallQ_plain ?_ | refine CallR_plain ?_ | refine wCond ?_); simp [g1, g5, g14, g15, g16, b13, hlt, hlt', hltz, hw, he, hQ, hzk, hzd]) | (refine wIn ?_; refine And.intro (by kernel_rfl) ?_; try simp only [thenA_n]) | (first | refine wBlock ?_ | refine wScope ?_) | ((first | refine wRet ?_ | refine wExit ?_ | refine wSkip ?_); try simp) | ((first | refine wLabel ?_ | refine wOn ?_ | refine wQn ?_); try simp only [thenA_n]) | (refine CallE.pure (c) rfl ?_) | (refine CallE.lent (c) rfl ?_) | (refine CallF.pure (c) rfl ?_) | (refine CallF.lent (c) rfl ?_) | (refine CallE.own (c) ?_) | (refine CallH.pure (c) rfl ?_) | (refine CallH.lent (c) rfl ?_) | (refine CallH.own (c) ?_)
    refine hL _ (N - 1) (by omega) ⟨k + 1, zs.set k r.cells, by omega, by simpa using hz1, fun r hr2 => ?_, hst, ?_⟩
    · rcases List.mem_or_eq_of_mem_set hr2 with h | rfl
      · exact hzl _ h
      · exact mq_len _
    simp [g1, g5, g14, g15, g16, b13, hw]
  · have hlt' : ¬ (k : Int) < l.length := by omega
    rw [List.take_of_length_le (by omega), List.take_of_length_le (by simp; omega)] at hi
    subst hi
    repeat' first | (refine hK _ ?_; clear hK) | (refine hK _ _ ?_; clear hK) | (clear hK; refine hK _ ?_; clear hK) | (clear hK; clear hK; refine hK _ ?_; clear hK) | (clear hK; clear hK; clear hK; refine hK _ ?_; clear hK) | (clear hK; clear hK; clear hK; clear hK; refine hK _ ?_; clear hK) | (refine wSeq fun K hK => ?_) | ((first | refine wReg ?_ | refine wDrwQ rfl (by kernel_rfl) ?_ | refine wDrwI ?_ | refine wDrw (by kernel_rfl) ?_); simp only [List.map_cons, List.map_nil, strip]) | ((first | refine wIs fun K hK => ?_ | refine wOs fun K hK => ?_ | refine wQs fun K hK => ?_ | refine CallK_plain ?_ | refine CallQ_plain ?_ | refine CallR_plain ?_ | refine wCond ?_); simp [g1, g5, g14, g15, g16, b13, hlt, hlt']) | (refine wIn ?_; refine And.intro (by kernel_rfl) ?_; try simp only [thenA_n]) | (first | refine wBlock ?_ | refine wScope ?_) | ((first | refine wRet ?_ | refine wExit ?_ | refine wSkip ?_); try simp) | ((first | refine wLabel ?_ | refine wOn ?_ | refine wQn ?_); try simp only [thenA_n])
    all_goals refine hr _ 13 (by simp [g5]) (by simp [b13]) (by omega)
/-! ### Which stay -/
theorem apart1_con (m : Mq) (p0 p1 : Int) : Con Try.prog 48 [.p (.agg m.cells), .ptr 1024 0] [.box 87 [.p (I p0), .p (I p1)]] (.ret (.p (B (!decide (two m.fr m.to = ⟨p0, p1⟩)))) [] [.box 87 [.p (I p0), .p (I p1)]]) := by
  have c := two_con m.fr m.to
  generalize two m.fr m.to = q at *
  obtain ⟨q0, q1⟩ := q
  have hx : (!decide ((⟨q0, q1⟩ : Pr) = ⟨p0, p1⟩)) = !(decide (q0 = p0) && decide (q1 = p1)) := by
    by_cases h1 : q0 = p0 <;> by_cases h2 : q1 = p1 <;> simp [h1, h2]
  rw [hx]
  by_cases h1 : q0 = p0
  all_goals by_cases h2 : q1 = p1
  all_goals refine wBodyG Try.tab Try.mixed Try.func48 rfl rfl Try.ntmps48 (by simp) (by simp) fun Q hr hn hp => ?_
  all_goals repeat' first | (refine hK _ ?_; clear hK) | (refine hK _ _ ?_; clear hK) | (clear hK; refine hK _ ?_; clear hK) | (clear hK; clear hK; refine hK _ ?_; clear hK) | (clear hK; clear hK; clear hK; refine hK _ ?_; clear hK) | (clear hK; clear hK; clear hK; clear hK; refine hK _ ?_; clear hK) | (refine wSeq fun K hK => ?_) | ((first | refine wReg ?_ | refine wDrwQ rfl (by kernel_rfl) ?_ | refine wDrwI ?_ | refine wDrw (by kernel_rfl) ?_); simp only [List.map_cons, List.map_nil, strip]) | ((first | refine wIs fun K hK => ?_ | refine wOs fun K hK => ?_ | refine wQs fun K hK => ?_ | refine CallK_plain ?_ | refine CallQ_plain ?_ | refine CallR_plain ?_ | refine wCond ?_); simp [h1, h2]) | (refine wIn ?_; refine And.intro (by kernel_rfl) ?_; try simp only [thenA_n]) | (first | refine wBlock ?_ | refine wScope ?_) | ((first | refine wRet ?_ | refine wExit ?_ | refine wSkip ?_); try simp) | ((first | refine wLabel ?_ | refine wOn ?_ | refine wQn ?_); try simp only [thenA_n]) | (refine CallE.pure (c) rfl ?_) | (refine CallE.lent (c) rfl ?_) | (refine CallF.pure (c) rfl ?_) | (refine CallF.lent (c) rfl ?_) | (refine CallE.own (c) ?_) | (refine CallH.pure (c) rfl ?_) | (refine CallH.lent (c) rfl ?_) | (refine CallH.own (c) ?_)
  all_goals first | apply hn | apply hr
  all_goals refine ⟨[], by simp, by simp, ?_⟩
  all_goals simp [Try.f48, outR, outB, renB, gaN, h1, h2]
theorem alone1_con (m : Mq) (i : Int) : Con Try.prog 30 [.p (.agg m.cells), .ptr 1024 0] [.box 3 [.p (I i)]] (.ret (.p (B (decide (m.fr ≠ i ∧ m.to ≠ i)))) [] [.box 3 [.p (I i)]]) := by
  by_cases h1 : m.fr = i
  all_goals by_cases h2 : m.to = i
  all_goals refine wBodyG Try.tab Try.mixed Try.func30 rfl rfl Try.ntmps30 (by simp) (by simp) fun Q hr hn hp => ?_
  all_goals repeat' first | (refine hK _ ?_; clear hK) | (refine hK _ _ ?_; clear hK) | (clear hK; refine hK _ ?_; clear hK) | (clear hK; clear hK; refine hK _ ?_; clear hK) | (clear hK; clear hK; clear hK; refine hK _ ?_; clear hK) | (clear hK; clear hK; clear hK; clear hK; refine hK _ ?_; clear hK) | (refine wSeq fun K hK => ?_) | ((first | refine wReg ?_ | refine wDrwQ rfl (by kernel_rfl) ?_ | refine wDrwI ?_ | refine wDrw (by kernel_rfl) ?_); simp only [List.map_cons, List.map_nil, strip]) | ((first | refine wIs fun K hK => ?_ | refine wOs fun K hK => ?_ | refine wQs fun K hK => ?_ | refine CallK_plain ?_ | refine CallQ_plain ?_ | refine CallR_plain ?_ | refine wCond ?_); simp [h1, h2]) | (refine wIn ?_; refine And.intro (by kernel_rfl) ?_; try simp only [thenA_n]) | (first | refine wBlock ?_ | refine wScope ?_) | ((first | refine wRet ?_ | refine wExit ?_ | refine wSkip ?_); try simp) | ((first | refine wLabel ?_ | refine wOn ?_ | refine wQn ?_); try simp only [thenA_n])
  all_goals first | apply hn | apply hr
  all_goals refine ⟨[], by simp, by simp, ?_⟩
  all_goals simp [Try.f30, outR, outB, renB, gaN, h1, h2]
theorem apart_con (a b : Int) : Con Try.prog 28 [.p (I a), .p (I b)] [] (.ret (.clo ⟨48, false⟩ [.box 2048]) [.box 87 [.p (I (two a b).a), .p (I (two a b).b)]] []) := by
  have c := two_con a b
  generalize two a b = q at *
  obtain ⟨q0, q1⟩ := q
  refine wBodyG Try.tab Try.mixed Try.func28 rfl rfl Try.ntmps28 (by simp) (by simp) fun Q hr hn hp => ?_
  repeat' first | (refine hK _ ?_; clear hK) | (refine hK _ _ ?_; clear hK) | (clear hK; refine hK _ ?_; clear hK) | (clear hK; clear hK; refine hK _ ?_; clear hK) | (clear hK; clear hK; clear hK; refine hK _ ?_; clear hK) | (clear hK; clear hK; clear hK; clear hK; refine hK _ ?_; clear hK) | (refine wSeq fun K hK => ?_) | ((first | refine wReg ?_ | refine wDrwQ rfl (by kernel_rfl) ?_ | refine wDrwI ?_ | refine wDrw (by kernel_rfl) ?_); simp only [List.map_cons, List.map_nil, strip]) | ((first | refine wIs fun K hK => ?_ | refine wOs fun K hK => ?_ | refine wQs fun K hK => ?_ | refine CallK_plain ?_ | refine CallQ_plain ?_ | refine CallR_plain ?_ | refine wCond ?_); simp) | (refine wIn ?_; refine And.intro (by kernel_rfl) ?_; try simp only [thenA_n]) | (first | refine wBlock ?_ | refine wScope ?_) | ((first | refine wRet ?_ | refine wExit ?_ | refine wSkip ?_); try simp) | ((first | refine wLabel ?_ | refine wOn ?_ | refine wQn ?_); try simp only [thenA_n]) | (refine CallE.pure (c) rfl ?_) | (refine CallE.lent (c) rfl ?_) | (refine CallF.pure (c) rfl ?_) | (refine CallF.lent (c) rfl ?_) | (refine CallE.own (c) ?_) | (refine CallH.pure (c) rfl ?_) | (refine CallH.lent (c) rfl ?_) | (refine CallH.own (c) ?_)
  all_goals first | apply hn | apply hr
  all_goals refine ⟨[5], by simp, by simp, ?_⟩
  all_goals simp [Try.f28, outR, outB, renB, gaN]
theorem filt_snoc {l : List Mq} {k : Nat} (f : Mq → Bool) (h : k < l.length) : (l.take (k + 1)).filter f = if f l[k] = true then (l.take k).filter f ++ [l[k]] else (l.take k).filter f := by
  rw [List.take_succ_eq_append_getElem h, List.filter_append]
  by_cases g : f l[k] = true <;> simp [g]
theorem filt_len (l : List Mq) (f : Mq → Bool) (k : Nat) : ((l.take k).filter f).length ≤ k := Nat.le_trans (List.length_filter_le _ _) (by simp; omega)
set_option maxHeartbeats 2000000 in
theorem sifted_con (g : FuncId) (B0 : Blk) (hB : ∃ (t : TypeId) (cs : List Int), B0 = .box t (cs.map fun x => V.p (I x))) (f : Mq → Bool) (hc : ∀ m, Con Try.prog g [.p (.agg m.cells), .ptr 1024 0] [B0] (.ret (.p (B (f m))) [] [B0])) (l : List Mq) (hl : l.length ≤ 2000000) : Con Try.prog 27 [.p (.sl 46 (mqs l)), .clo ⟨g, false⟩ [.box 1024]] [B0] (.ret (.row 2048) [.row 51 46 (mqs (l.filter f))] [B0]) := by
  obtain ⟨t, cs, rfl⟩ := hB
  refine wBodyG Try.tab Try.mixed Try.func27 rfl rfl Try.ntmps27 (by simp) (by simp) fun Q hr hn hp => ?_
  repeat' first | (refine hK _ ?_; clear hK) | (refine hK _ _ ?_; clear hK) | (clear hK; refine hK _ ?_; clear hK) | (clear hK; clear hK; refine hK _ ?_; clear hK) | (clear hK; clear hK; clear hK; refine hK _ ?_; clear hK) | (clear hK; clear hK; clear hK; clear hK; refine hK _ ?_; clear hK) | (refine wSeq fun K hK => ?_) | ((first | refine wReg ?_ | refine wDrwQ rfl (by kernel_rfl) ?_ | refine wDrwI ?_ | refine wDrw (by kernel_rfl) ?_); simp only [List.map_cons, List.map_nil, strip]) | ((first | refine wIs fun K hK => ?_ | refine wOs fun K hK => ?_ | refine wQs fun K hK => ?_ | refine CallK_plain ?_ | refine CallQ_plain ?_ | refine CallR_plain ?_ | refine wCond ?_); simp) | (refine wIn ?_; refine And.intro (by kernel_rfl) ?_; try simp only [thenA_n]) | (first | refine wBlock ?_ | refine wScope ?_) | ((first | refine wRet ?_ | refine wExit ?_ | refine wSkip ?_); try simp) | ((first | refine wLabel ?_ | refine wOn ?_ | refine wQn ?_); try simp only [thenA_n])
  refine wLoopG [.row 5 51 46] (fun N st => ∃ k, k + N = l.length ∧ st.s 1 = .clo ⟨g, false⟩ [.box 1024] ∧ st.s 8 = .p (.sl 46 (mqs l)) ∧ st.s 9 = .p (I l.length) ∧ st.s 10 = .p (I k) ∧ st.s 5 = .row 5 ∧ st.b 5 = some (.row 51 46 (mqs ((l.take k).filter f))) ∧ st.b 1024 = some (.box t (cs.map fun x => V.p (I x)))) l.length ⟨0, by simp [mqs]⟩ fun K N st hL ⟨k, hk, g1, g8, g9, g10, g5, b5, e0⟩ => ?_
  by_cases hlt : k < l.length
  · have hlt' : (k : Int) < l.length := by omega
    have hw := wrapS k _ hlt (by omega)
    have he := mqs_get hlt
    have hs := filt_snoc f hlt
    have hsl := filt_len l f k
    have hx := mqs_snoc ((l.take k).filter f) l[k]
    have c := hc l[k]
    generalize hQ : l[k] = m at *
    generalize (l.take k).filter f = S0 at *
    cases o : f m
    · rw [o] at hs c
      rw [if_neg (by simp)] at hs
      repeat' first | (refine CallK_read [1024] c (by decide) (by decide) (by simp [e0]) (by simp [argG, ren0, inN, pos, renCs, renC, hQ]) rfl ?_; simp [g1, g8, g9, g10, g5, b5, e0]) | (refine hK _ ?_; clear hK) | (refine hK _ _ ?_; clear hK) | (clear hK; refine hK _ ?_; clear hK) | (clear hK; clear hK; refine hK _ ?_; clear hK) | (clear hK; clear hK; clear hK; refine hK _ ?_; clear hK) | (clear hK; clear hK; clear hK; clear hK; refine hK _ ?_; clear hK) | (refine wSeq fun K hK => ?_) | ((first | refine wReg ?_ | refine wDrwQ rfl (by kernel_rfl) ?_ | refine wDrwI ?_ | refine wDrw (by kernel_rfl) ?_); simp only [List.map_cons, List.map_nil, strip]) | ((first | refine wIs fun K hK => ?_ | refine wOs fun K hK => ?_ | refine wQs fun K hK => ?_ | refine CallK_plain ?_ | refine CallQ_plain ?_ | refine CallR_plain ?_ | refine wCond ?_); simp [g1, g8, g9, g10, g5, b5, e0, hlt, hlt', hw, he, hQ]) | (refine wIn ?_; refine And.intro (by kernel_rfl) ?_; try simp only [thenA_n]) | (first | refine wBlock ?_ | refine wScope ?_) | ((first | refine wRet ?_ | refine wExit ?_ | refine wSkip ?_); try simp) | ((first | refine wLabel ?_ | refine wOn ?_ | refine wQn ?_); try simp only [thenA_n])
      refine hL _ (N - 1) (by omega) ⟨k + 1, by omega, ?_⟩
      simp [g1, g8, g9, g10, g5, b5, e0, hw, hs]
    · rw [o] at hs c
      rw [if_pos rfl] at hs
      rw [← hs] at hx
      repeat' first | (refine CallK_read [1024] c (by decide) (by decide) (by simp [e0]) (by simp [argG, ren0, inN, pos, renCs, renC, hQ]) rfl ?_; simp [g1, g8, g9, g10, g5, b5, e0]) | (refine And.intro (by (try simp at hsl ⊢); omega) ?_) | (refine hK _ ?_; clear hK) | (refine hK _ _ ?_; clear hK) | (clear hK; refine hK _ ?_; clear hK) | (clear hK; clear hK; refine hK _ ?_; clear hK) | (clear hK; clear hK; clear hK; refine hK _ ?_; clear hK) | (clear hK; clear hK; clear hK; clear hK; refine hK _ ?_; clear hK) | (refine wSeq fun K hK => ?_) | ((first | refine wReg ?_ | refine wDrwQ rfl (by kernel_rfl) ?_ | refine wDrwI ?_ | refine wDrw (by kernel_rfl) ?_); simp only [List.map_cons, List.map_nil, strip]) | ((first | refine wIs fun K hK => ?_ | refine wOs fun K hK => ?_ | refine wQs fun K hK => ?_ | refine CallK_plain ?_ | refine CallQ_plain ?_ | refine CallR_plain ?_ | refine wCond ?_); simp [g1, g8, g9, g10, g5, b5, e0, hlt, hlt', hw, he, hQ]) | (refine wIn ?_; refine And.intro (by kernel_rfl) ?_; try simp only [thenA_n]) | (first | refine wBlock ?_ | refine wScope ?_) | ((first | refine wRet ?_ | refine wExit ?_ | refine wSkip ?_); try simp) | ((first | refine wLabel ?_ | refine wOn ?_ | refine wQn ?_); try simp only [thenA_n])
      refine hL _ (N - 1) (by omega) ⟨k + 1, by omega, ?_⟩
      simp [g1, g8, g9, g10, g5, b5, e0, hw, hx, hQ]
  · have hlt' : ¬ (k : Int) < l.length := by omega
    rw [List.take_of_length_le (by omega)] at b5
    repeat' first | (refine hK _ ?_; clear hK) | (refine hK _ _ ?_; clear hK) | (clear hK; refine hK _ ?_; clear hK) | (clear hK; clear hK; refine hK _ ?_; clear hK) | (clear hK; clear hK; clear hK; refine hK _ ?_; clear hK) | (clear hK; clear hK; clear hK; clear hK; refine hK _ ?_; clear hK) | (refine wSeq fun K hK => ?_) | ((first | refine wReg ?_ | refine wDrwQ rfl (by kernel_rfl) ?_ | refine wDrwI ?_ | refine wDrw (by kernel_rfl) ?_); simp only [List.map_cons, List.map_nil, strip]) | ((first | refine wIs fun K hK => ?_ | refine wOs fun K hK => ?_ | refine wQs fun K hK => ?_ | refine CallK_plain ?_ | refine CallQ_plain ?_ | refine CallR_plain ?_ | refine wCond ?_); simp [g1, g8, g9, g10, g5, b5, e0, hlt, hlt']) | (refine wIn ?_; refine And.intro (by kernel_rfl) ?_; try simp only [thenA_n]) | (first | refine wBlock ?_ | refine wScope ?_) | ((first | refine wRet ?_ | refine wExit ?_ | refine wSkip ?_); try simp) | ((first | refine wLabel ?_ | refine wOn ?_ | refine wQn ?_); try simp only [thenA_n])
    all_goals first | apply hn | apply hr
    all_goals refine ⟨[5], by simp, by simp, ?_⟩
    all_goals simp [Try.f27, outR, outB, renB, gaN, g5, b5, e0]
end Go.Proofs.Ytechjohebkcjiaa
/- Records: what comes in, opened. -/
namespace Go.Proofs.Ytechjohebkcjiaa
set_option linter.unusedSimpArgs false
set_option linter.unusedVariables false
set_option maxRecDepth 8000
open Go Go.Av Go.ChangeShapes Go.WideShapes Go.ChangeAt Go.RowKit
/-- How many bytes an element of so many cells has at least. -/
def KB (c : Nat) : Nat := 1
theorem hpos : PosK Try.T KB := by
  intro t yt e y h hk hy hs
  unfold Try.T at h
  split at h
  all_goals first | (cases h; done) | (cases h; cases hk; done) | (cases h; cases hk; cases hy; done) | (cases h; cases hk; cases hy; first | exact of_decide_eq_true (by kernel_rfl) | (simp at hs; done))
abbrev Zd (ps : List PV) : Prop := ∀ p ∈ ps, SzI KB reachBytes p
theorem reach47 : reachBytes ≤ 140737488355328 := by decide
theorem zd_len {p : PV} (h : SzI KB reachBytes p) : lenP p ≤ 140737488355328 := by
  have hr := reach47
  cases h with
  | v x h =>
    cases x
    case string s =>
      have := h s rfl
      have h1 : s.data.toList.length = s.size := Array.length_toList
      show s.data.toList.length ≤ _; omega
    all_goals exact Nat.zero_le _
  | sl c l hl h => have : l.length * 1 ≤ reachBytes := hl; show l.length ≤ _; omega
  | agg l h => exact Nat.zero_le _
abbrev FoS (f : Fo) (E : List Lf) : Prop := ∀ ps, ShL E ps → Zd ps → f.ok ps
theorem foI_S : FoS foI [.int .i64] := fun ps h hz => by
  obtain ⟨p, _, rfl, h0, h⟩ := h.cons
  obtain rfl := h.nil
  obtain ⟨n, rfl, hn⟩ := h0.intI
  refine ⟨n, rfl, ?_⟩
  simp only [Lit.wf, Bool.and_eq_true, decide_eq_true_eq] at hn
  have h1 : IntKind.i64.min = -9223372036854775808 := by decide
  have h2 : IntKind.i64.max = 9223372036854775807 := by decide
  unfold okI; omega
theorem foS_S : FoS foS [.str] := fun ps h hz => by
  obtain ⟨p, _, rfl, h0, h⟩ := h.cons
  obtain rfl := h.nil
  obtain ⟨s, rfl, hs⟩ := h0.strI
  have h1 : s.data.toList.length = s.size := Array.length_toList
  have h2 : maxLen = 9223372036854775807 := rfl
  exact ⟨s.data.toList, by show [PV.v (.string s)] = [PV.v (.string ⟨s.data.toList.toArray⟩)]; rw [Array.toArray_toList], by omega⟩
theorem foB_S : FoS foB [.bool] := fun ps h hz => by
  obtain ⟨p, _, rfl, h0, h⟩ := h.cons
  obtain rfl := h.nil
  obtain ⟨x, rfl⟩ := h0.boolI
  exact ⟨x, rfl⟩
theorem shl_parts {E E' : List Lf} {ps : List PV} (h : ShL (E ++ E') ps) : ShL E (ps.take E.length) ∧ ShL E' (ps.drop E.length) := by
  obtain ⟨h1, h2⟩ := h
  rw [List.length_append] at h1
  refine ⟨⟨by rw [List.length_take]; omega, fun j f p hf hp => ?_⟩, ⟨by rw [List.length_drop]; omega, fun j f p hf hp => ?_⟩⟩
  · have hj : j < E.length := by rw [List.getElem?_eq_some_iff] at hf; exact hf.1
    refine h2 j f p (by rw [List.getElem?_append_left hj]; exact hf) ?_
    rw [List.getElem?_take] at hp
    rw [if_pos hj] at hp; exact hp
  · refine h2 (E.length + j) f p (by rw [List.getElem?_append_right (by omega)]; simpa using hf) ?_
    rw [List.getElem?_drop] at hp; exact hp
theorem sq_S {f g : Fo} {E E' : List Lf} (hf : FoS f E) (hg : FoS g E') (hn : f.n = E.length := by rfl) : FoS (sq f g) (E ++ E') := fun ps h hz => by
  obtain ⟨h1, h2⟩ := shl_parts h
  refine ⟨?_, ?_⟩
  · show f.ok (ps.take f.n); rw [hn]; exact hf _ h1 fun p hp => hz p (List.mem_of_mem_take hp)
  · show g.ok (ps.drop f.n); rw [hn]; exact hg _ h2 fun p hp => hz p (List.mem_of_mem_drop hp)
theorem fl_S {f : Fo} {E : List Lf} (hf : FoS f E) : FoS (fl E.length f) [.sl E] := fun ps h hz => by
  obtain ⟨p, _, rfl, h0, h⟩ := h.cons
  obtain rfl := h.nil
  obtain ⟨l, rfl⟩ := h0.slI (α := {e : List PV // ShL E e}) (f := fun a => a.val) fun ps h => ⟨⟨ps, h⟩, rfl⟩
  have hs := hz _ List.mem_cons_self
  have hb := zd_len hs
  refine ⟨_, rfl, by rw [lenP_sl] at hb; omega, fun r hr => ?_⟩
  obtain ⟨⟨e, he⟩, h1, rfl⟩ := List.mem_map.1 hr
  exact hf _ he fun p hp => hs.at hr hp
abbrev EZx : List Lf := [.int .i64, .int .i64]
theorem fZx_S : FoS fZx EZx := sq_S foI_S foI_S
abbrev EMb : List Lf := [.int .i64, .int .i64, .int .i64, .int .i64]
theorem fMb_S : FoS fMb EMb := sq_S foI_S (sq_S foI_S (sq_S foI_S foI_S))
abbrev ECf : List Lf := [.int .i64, .int .i64, .int .i64, .sl EMb]
theorem fCf_S : FoS fCf ECf := sq_S fZx_S (sq_S foI_S (fl_S fMb_S))
abbrev ENd : List Lf := [.str, .str, .int .i64, .int .i64, .int .i64]
theorem fNd_S : FoS fNd ENd := sq_S foS_S (sq_S foS_S (sq_S foI_S (sq_S foI_S foI_S)))
abbrev EPt : List Lf := [.int .i64, .str, .str, .int .i64, .int .i64, .int .i64, .int .i64, .int .i64, .int .i64, .int .i64, .sl EMb]
theorem fPt_S : FoS fPt EPt := sq_S foI_S (sq_S fNd_S (sq_S foI_S fCf_S))
abbrev ETx : List Lf := [.int .i64, .int .i64, .int .i64, .int .i64, .int .i64, .int .i64, .str, .sl EPt]
theorem fTx_S : FoS fTx ETx := sq_S fZx_S (sq_S foI_S (sq_S foI_S (sq_S foI_S (sq_S foI_S (sq_S foS_S (fl_S fPt_S))))))
abbrev ESt : List Lf := [.sl ENd, .sl [.int .i64], .int .i64, .int .i64, .int .i64, .int .i64, .sl EMb, .int .i64, .int .i64]
theorem fSt_S : FoS fSt ESt := sq_S (fl_S fNd_S) (sq_S (fl_S foI_S) (sq_S foI_S (sq_S fCf_S fZx_S)))
abbrev EOp : List Lf := [.int .i64, .str, .str, .int .i64, .bool, .bool]
theorem fOp_S : FoS fOp EOp := sq_S foI_S (sq_S foS_S (sq_S foS_S (sq_S foI_S (sq_S foB_S foB_S))))
abbrev ERq : List Lf := [.int .i64, .int .i64, .int .i64, .sl EOp, .int .i64, .sl EMb, .sl [.int .i64], .int .i64, .int .i64]
theorem fRq_S : FoS fRq ERq := sq_S foI_S (sq_S foI_S (sq_S foI_S (sq_S (fl_S fOp_S) (sq_S foI_S (sq_S (fl_S fMb_S) (sq_S (fl_S foI_S) fZx_S))))))
abbrev EVt : List Lf := [.int .i64, .int .i64, .int .i64, .int .i64, .int .i64, .int .i64, .int .i64]
theorem fVt_S : FoS fVt EVt := sq_S foI_S (sq_S foI_S (sq_S foI_S (sq_S fZx_S (sq_S foI_S foI_S))))
abbrev EPl : List Lf := [.int .i64, .int .i64, .int .i64, .sl ENd, .sl [.int .i64], .int .i64, .int .i64, .int .i64, .int .i64, .sl EMb, .int .i64, .int .i64, .sl ETx]
theorem fPl_S : FoS fPl EPl := sq_S foI_S (sq_S fZx_S (sq_S fSt_S (fl_S fTx_S)))
abbrev EMs : List Lf := [.int .i64, .int .i64, .int .i64, .int .i64, .int .i64, .int .i64, .int .i64, .int .i64, .int .i64, .int .i64, .int .i64, .int .i64, .int .i64, .int .i64, .sl EZx, .int .i64, .int .i64, .int .i64, .sl ENd, .sl [.int .i64], .int .i64, .int .i64, .int .i64, .int .i64, .sl EMb, .int .i64, .int .i64, .sl ETx, .int .i64, .int .i64, .int .i64, .int .i64, .int .i64, .int .i64, .str, .sl EPt, .sl [.int .i64], .int .i64, .int .i64, .int .i64, .sl EOp, .int .i64, .sl EMb, .sl [.int .i64], .int .i64, .int .i64]
theorem fMs_S : FoS fMs EMs := sq_S foI_S (sq_S foI_S (sq_S foI_S (sq_S fVt_S (sq_S foI_S (sq_S foI_S (sq_S fZx_S (sq_S (fl_S fZx_S) (sq_S fPl_S (sq_S fTx_S (sq_S (fl_S foI_S) fRq_S))))))))))
theorem int_open {p : PV} (hp : ShT Try.T 3 p) : ∃ n, p = I n := by
  obtain ⟨n, rfl, -⟩ := (hp.one (f := .int .i64) rfl rfl rfl).intI
  exact ⟨n, rfl⟩
end Go.Proofs.Ytechjohebkcjiaa
/- The second form of a row: what comes in is small, so each slice and each text in it is. -/
namespace Go.Proofs.Ytechjohebkcjiaa
set_option linter.unusedVariables false
open Go Go.Av
theorem up_one {H : Type} (d : DataW H) : 1 ≤ Rows.uptoBulk d := by
  cases d with
  | lit l => cases l <;> simp [Rows.uptoBulk]
  | _ => simp [Rows.uptoBulk]
theorem up_at {H : Type} : ∀ {l : List (DataW H)} {i : Nat} {d : DataW H}, l[i]? = some d → Rows.uptoBulk d ≤ Rows.uptoBulkAll l
  | x :: l, 0, d, h => by
    simp at h; subst h
    simp only [Rows.uptoBulkAll]; omega
  | x :: l, i + 1, d, h => by
    have := up_at (l := l) (i := i) (d := d) (by simpa using h)
    simp only [Rows.uptoBulkAll]; omega
theorem up_len {H : Type} : ∀ l : List (DataW H), l.length ≤ Rows.uptoBulkAll l
  | [] => by simp [Rows.uptoBulkAll]
  | x :: l => by
    have h1 := up_one x
    have h2 := up_len l
    simp only [Rows.uptoBulkAll, List.length_cons]; omega
theorem bddU {H : Type} {P : Program} (T : TypeId → Option Ty) : BddD (H := H) P T (fun _ d => Rows.uptoBulk d ≤ 1048576) (fun _ => 1) 1048576 where
  st := fun t fs parts i f d _ hb _ hd => by
    have h1 := up_at hd
    simp only [Rows.uptoBulk] at hb; omega
  ar := fun t k e parts i d _ hb hd => by
    have h1 := up_at hd
    simp only [Rows.uptoBulk] at hb; omega
  sl := fun t e elems spare _ _ y _ _ hb => by
    have h1 := up_len elems
    simp only [Rows.uptoBulk] at hb; omega
  sle := fun t e elems spare i d _ hb hd => by
    have h1 := up_at hd
    simp only [Rows.uptoBulk] at hb; omega
  str := fun t b hb => by simp only [Rows.uptoBulk] at hb; omega
theorem up_all {H : Type} : ∀ l m : List (DataW H), Rows.uptoBulkAll l ≤ Rows.uptoBulkAll (l ++ m)
  | [], m => by simp [Rows.uptoBulkAll]
  | x :: l, m => by
    have := up_all l m
    simp only [List.cons_append, Rows.uptoBulkAll]; omega
theorem upto_arg {H : Type} {ds gs : List (DataW H)} (hk : Rows.uptoSmall H (ds ++ gs) = true) {j : Nat} {d : DataW H} (hd : ds[j]? = some d) : Rows.uptoBulk d ≤ 1048576 := by
  have h1 : Rows.uptoBulkAll (ds ++ gs) ≤ 1048576 := of_decide_eq_true hk
  have h2 := up_all ds gs
  have h3 := up_at hd
  omega
end Go.Proofs.Ytechjohebkcjiaa
/- Links: what comes in, opened. -/
namespace Go.Proofs.Ytechjohebkcjiaa
set_option linter.unusedSimpArgs false
set_option linter.unusedVariables false
set_option maxRecDepth 8000
open Go Go.Av Go.ChangeShapes Go.WideShapes Go.ChangeAt Go.RowKit
theorem z1_mono {p : PV} (h : SzI K1 1048576 p) : SzI KB reachBytes p := by
  have hr : 1048576 ≤ reachBytes := by decide
  induction h with
  | v x h => exact .v x fun s e => Nat.le_trans (h s e) hr
  | sl c l hl h ih => exact .sl c l (Nat.le_trans (show l.length * 1 ≤ 1048576 from hl) hr) ih
  | agg l h ih => exact .agg l ih
theorem mqs_open {p : PV} (hp : ShT Try.T 22 p) (hz : SzI K1 1048576 p) : ∃ l : List Mq, p = .sl 46 (mqs l) ∧ (∀ m ∈ l, OkM m) ∧ l.length ≤ 1048576 := by
  obtain ⟨l, rfl⟩ := (hp.one (f := .sl EMs) rfl rfl rfl).slI (α := {e : List PV // ShL EMs e}) (f := fun a => a.val) fun ps h => ⟨⟨ps, h⟩, rfl⟩
  have ho : ∀ r ∈ l.map (fun a => a.val), fMs.ok r := fun r hr => by
    obtain ⟨⟨e, he⟩, h1, rfl⟩ := List.mem_map.1 hr
    exact fMs_S _ he fun q hq => z1_mono (hz.at hr hq)
  have hlen := z1_len hz
  have hzz : ∀ r ∈ l.map (fun a => a.val), Zs r := fun r hr q hq => hz.at hr hq
  obtain ⟨L, hL⟩ := mqs_of ho
  refine ⟨L, by rw [← hL]; rfl, fun m hm => ⟨ho _ ?_, hzz _ ?_⟩, ?_⟩
  · rw [hL]; exact List.mem_map.2 ⟨m, hm, rfl⟩
  · rw [hL]; exact List.mem_map.2 ⟨m, hm, rfl⟩
  · have h2 : (l.map (fun a => a.val)).length = L.length := by rw [hL, mqs_len]
    show L.length ≤ _
    omega
theorem arr2_open {p : PV} (hp : ShT Try.T 23 p) : ∃ a b : Int, p = .agg [I a, I b] := by
  obtain ⟨ps, rfl, h⟩ := hp.agg (y := (Try.T 23).get rfl) rfl (E := [.int .i64, .int .i64]) (by kernel_rfl) rfl
  obtain ⟨_, _, rfl, h0, h⟩ := h.cons
  obtain ⟨_, _, rfl, h1, h⟩ := h.cons
  obtain rfl := h.nil
  obtain ⟨a, rfl, -⟩ := h0.intI
  obtain ⟨b, rfl, -⟩ := h1.intI
  exact ⟨a, b, rfl⟩
end Go.Proofs.Ytechjohebkcjiaa
/- The document's copies: states, transactions, histories. -/
namespace Go.Proofs.Ytechjohebkcjiaa
set_option linter.unusedSimpArgs false
set_option linter.unusedVariables false
set_option maxRecDepth 8000
open Go Go.Av
attribute [local simp] Try.T1 Try.T2 Try.T3 Try.T4 Try.T5 Try.T9 Try.T12 Try.T15 Try.T16 Try.T17 Try.T21 Try.T22 Try.T23 Try.T24 Try.T25 Try.T27 Try.T29 Try.T30 Try.T31 Try.T32 Try.T33 Try.T35 Try.T37 Try.T38 Try.T40 Try.T41 Try.T42 Try.T44 Try.T45 Try.T47 Try.T49 Try.T51 Try.T53 Try.T54 Try.T55 Try.T56 Try.T57 Try.T58 Try.T59 Try.T60 Try.T61 Try.T62 Try.T63 Try.T64 Try.T66 Try.T67 Try.T68 Try.T69 Try.T70 Try.T72 Try.T74 Try.T76 Try.T77 Try.T78 Try.T79 Try.T80 Try.T81 Try.T82 Try.T83 Try.T84 Try.T85 Try.T87 Try.T88 Try.T89 Try.T90 Try.T91 Try.T92 Try.T93 Try.T94 Try.T96 Try.T97 Try.T98 Try.T99 Try.T100 Try.T101 Try.T102 Try.T103 Try.T104 Try.T105 Try.T106 Try.T107 Try.T108 Try.T109 Try.T110 Try.T111 Try.T113 Try.T114 Try.T115 Try.T116 Try.T117 Try.T118 Try.T119 Try.T120 Try.T121 Try.T122 Try.T123 Try.T124 Try.T125 Try.T126 Try.T127 Try.T128 Try.T129 Try.T130 Try.T133 Try.T136 Try.T137 Try.T140 Try.T141
attribute [local irreducible] Go.Av.CallK Go.Av.CallE Go.Av.CallQ Go.Av.CallF Go.Av.CallR Go.Av.CallH Go.Av.Con
theorem cmpS_con (e n : Int) : ACon Try.prog 73 [.p (.agg [I e, I n]), .p (.agg [I e, I n])] (.p (I 0)) := by
  refine wBody Try.tab Try.mixed Try.func73 rfl rfl Try.ntmps73 (by simp) (by simp) fun Q hr hn => ?_
  repeat' first | (refine hK _ ?_; clear hK) | (refine hK _ _ ?_; clear hK) | (clear hK; refine hK _ ?_; clear hK) | (clear hK; clear hK; refine hK _ ?_; clear hK) | (clear hK; clear hK; clear hK; refine hK _ ?_; clear hK) | (clear hK; clear hK; clear hK; clear hK; refine hK _ ?_; clear hK) | (refine wSeq fun K hK => ?_) | ((first | refine wReg ?_ | refine wDrwQ rfl (by kernel_rfl) ?_ | refine wDrwI ?_ | refine wDrw (by kernel_rfl) ?_); simp only [List.map_cons, List.map_nil, strip]) | ((first | refine wIs fun K hK => ?_ | refine wOs fun K hK => ?_ | refine wQs fun K hK => ?_ | refine CallK_plain ?_ | refine CallQ_plain ?_ | refine CallR_plain ?_ | refine wCond ?_); simp) | (refine wIn ?_; refine And.intro (by kernel_rfl) ?_; try simp only [thenA_n]) | (first | refine wBlock ?_ | refine wScope ?_) | ((first | refine wRet ?_ | refine wExit ?_ | refine wSkip ?_); try simp) | ((first | refine wLabel ?_ | refine wOn ?_ | refine wQn ?_); try simp only [thenA_n])
  all_goals apply hr
  all_goals simp [Try.f73]
theorem copied8_con (e n k : Int) (ms : List (List PV)) (hl : ms.length ≤ 1048576) : ACon Try.prog 68 [.p (.agg [I e, I n, I k, .sl 4 ms])] (.p (.agg [I e, I n, I k, .sl 4 ms])) := by
  refine wBody Try.tab Try.mixed Try.func68 rfl rfl Try.ntmps68 (by simp) (by simp) fun Q hr hn => ?_
  repeat' first | (refine And.intro (by (try simp); omega) ?_) | (refine Or.inl ?_) | (refine hK _ ?_; clear hK) | (refine hK _ _ ?_; clear hK) | (clear hK; refine hK _ ?_; clear hK) | (clear hK; clear hK; refine hK _ ?_; clear hK) | (clear hK; clear hK; clear hK; refine hK _ ?_; clear hK) | (clear hK; clear hK; clear hK; clear hK; refine hK _ ?_; clear hK) | (refine wSeq fun K hK => ?_) | ((first | refine wReg ?_ | refine wDrwQ rfl (by kernel_rfl) ?_ | refine wDrwI ?_ | refine wDrw (by kernel_rfl) ?_); simp only [List.map_cons, List.map_nil, strip]) | ((first | refine wIs fun K hK => ?_ | refine wOs fun K hK => ?_ | refine wQs fun K hK => ?_ | refine CallK_plain ?_ | refine CallQ_plain ?_ | refine CallR_plain ?_ | refine wCond ?_); simp) | (refine wIn ?_; refine And.intro (by kernel_rfl) ?_; try simp only [thenA_n]) | (first | refine wBlock ?_ | refine wScope ?_) | ((first | refine wRet ?_ | refine wExit ?_ | refine wSkip ?_); try simp) | ((first | refine wLabel ?_ | refine wOn ?_ | refine wQn ?_); try simp only [thenA_n])
  all_goals apply hr
  all_goals simp [Try.f68]
set_option maxHeartbeats 4000000 in
theorem apply8_con (ns ss ms : List (List PV)) (nx e n k ae an : Int) (h1 : ns.length ≤ 1048576) (h2 : ss.length ≤ 1048576) (h3 : ms.length ≤ 1048576) : ACon Try.prog 67 [.p (.agg [.sl 5 ns, .sl 1 ss, I nx, I e, I n, I k, .sl 4 ms, I ae, I an]), .p (.agg [I ae, I an, I 0, I 0, I 0, I 0, SB [], .sl 11 []])] (.p (.agg [.sl 5 ns, .sl 1 ss, I nx, I e, I n, I k, .sl 4 ms, I ae, I an])) := by
  have c := copied8_con e n k ms h3
  have cc := cmpS_con ae an
  refine wBody Try.tab Try.mixed Try.func67 rfl rfl Try.ntmps67 (by simp) (by simp) fun Q hr hn => ?_
  repeat' first | (refine And.intro (by (try simp); omega) (Or.inr ?_)) | (refine And.intro (by (try simp); omega) ?_) | (refine Or.inr ?_) | (refine hK _ ?_; clear hK) | (refine hK _ _ ?_; clear hK) | (clear hK; refine hK _ ?_; clear hK) | (clear hK; clear hK; refine hK _ ?_; clear hK) | (clear hK; clear hK; clear hK; refine hK _ ?_; clear hK) | (clear hK; clear hK; clear hK; clear hK; refine hK _ ?_; clear hK) | (refine wSeq fun K hK => ?_) | ((first | refine wReg ?_ | refine wDrwQ rfl (by kernel_rfl) ?_ | refine wDrwI ?_ | refine wDrw (by kernel_rfl) ?_); simp only [List.map_cons, List.map_nil, strip]) | ((first | refine wIs fun K hK => ?_ | refine wOs fun K hK => ?_ | refine wQs fun K hK => ?_ | refine CallK_plain ?_ | refine CallQ_plain ?_ | refine CallR_plain ?_ | refine wCond ?_); simp) | (refine wIn ?_; refine And.intro (by kernel_rfl) ?_; try simp only [thenA_n]) | (first | refine wBlock ?_ | refine wScope ?_) | ((first | refine wRet ?_ | refine wExit ?_ | refine wSkip ?_); try simp) | ((first | refine wLabel ?_ | refine wOn ?_ | refine wQn ?_); try simp only [thenA_n]) | (refine CallE.pure (c) rfl ?_) | (refine CallE.lent (c) rfl ?_) | (refine CallF.pure (c) rfl ?_) | (refine CallF.lent (c) rfl ?_) | (refine CallE.own (c) ?_) | (refine CallH.pure (c) rfl ?_) | (refine CallH.lent (c) rfl ?_) | (refine CallH.own (c) ?_)
  refine wLoop (fun N st => st.s 3 = .ptr 3 0 ∧ st.b 3 = some (.box 44 [.p (I ae), .p (I an), .p (I 0), .p (I 0), .p (I 0), .p (I 0), .p (SB []), .p (.sl 11 [])]) ∧ st.s 4 = .ptr 4 0 ∧ st.b 4 = some (.box 37 [.nil 5, .nil 1, .p (I 0), .p (I 0), .p (I 0), .p (I 0), .nil 4, .p (I 0), .p (I 0)]) ∧ st.s 5 = .ptr 5 0 ∧ st.b 5 = some (.box 37 [.p (.sl 5 ns), .p (.sl 1 ss), .p (I nx), .p (I e), .p (I n), .p (I k), .p (.sl 4 ms), .p (I ae), .p (I an)]) ∧ st.s 25 = .p (.sl 11 []) ∧ st.s 26 = .p (I 0) ∧ st.s 27 = .p (I 0)) 0 (by simp) fun K N st hL ⟨g3, b3, g4, b4, g5, b5, g25, g26, g27⟩ => ?_
  repeat' first | (refine hK _ ?_; clear hK) | (refine hK _ _ ?_; clear hK) | (clear hK; refine hK _ ?_; clear hK) | (clear hK; clear hK; refine hK _ ?_; clear hK) | (clear hK; clear hK; clear hK; refine hK _ ?_; clear hK) | (clear hK; clear hK; clear hK; clear hK; refine hK _ ?_; clear hK) | (refine wSeq fun K hK => ?_) | ((first | refine wReg ?_ | refine wDrwQ rfl (by kernel_rfl) ?_ | refine wDrwI ?_ | refine wDrw (by kernel_rfl) ?_); simp only [List.map_cons, List.map_nil, strip]) | ((first | refine wIs fun K hK => ?_ | refine wOs fun K hK => ?_ | refine wQs fun K hK => ?_ | refine CallK_plain ?_ | refine CallQ_plain ?_ | refine CallR_plain ?_ | refine wCond ?_); simp [g3, b3, g4, b4, g5, b5, g25, g26, g27]) | (refine wIn ?_; refine And.intro (by kernel_rfl) ?_; try simp only [thenA_n]) | (first | refine wBlock ?_ | refine wScope ?_) | ((first | refine wRet ?_ | refine wExit ?_ | refine wSkip ?_); try simp) | ((first | refine wLabel ?_ | refine wOn ?_ | refine wQn ?_); try simp only [thenA_n]) | (refine CallE.pure (cc) rfl ?_) | (refine CallE.lent (cc) rfl ?_) | (refine CallF.pure (cc) rfl ?_) | (refine CallF.lent (cc) rfl ?_) | (refine CallE.own (cc) ?_) | (refine CallH.pure (cc) rfl ?_) | (refine CallH.lent (cc) rfl ?_) | (refine CallH.own (cc) ?_)
  all_goals apply hr
  all_goals simp [Try.f67, g4, b4, b5]
set_option maxHeartbeats 4000000 in
theorem all8_con (ns ss ms : List (List PV)) (nx e n k ae an : Int) (h1 : ns.length ≤ 1048576) (h2 : ss.length ≤ 1048576) (h3 : ms.length ≤ 1048576) : ACon Try.prog 65 [.p (.agg [.sl 5 ns, .sl 1 ss, I nx, I e, I n, I k, .sl 4 ms, I ae, I an]), .p (.sl 8 [])] (.p (.agg [.sl 5 ns, .sl 1 ss, I nx, I e, I n, I k, .sl 4 ms, I ae, I an])) := by
  have c := apply8_con ns ss ms nx e n k ae an h1 h2 h3
  refine wBody Try.tab Try.mixed Try.func65 rfl rfl Try.ntmps65 (by simp) (by simp) fun Q hr hn => ?_
  repeat' first | (refine hK _ ?_; clear hK) | (refine hK _ _ ?_; clear hK) | (clear hK; refine hK _ ?_; clear hK) | (clear hK; clear hK; refine hK _ ?_; clear hK) | (clear hK; clear hK; clear hK; refine hK _ ?_; clear hK) | (clear hK; clear hK; clear hK; clear hK; refine hK _ ?_; clear hK) | (refine wSeq fun K hK => ?_) | ((first | refine wReg ?_ | refine wDrwQ rfl (by kernel_rfl) ?_ | refine wDrwI ?_ | refine wDrw (by kernel_rfl) ?_); simp only [List.map_cons, List.map_nil, strip]) | ((first | refine wIs fun K hK => ?_ | refine wOs fun K hK => ?_ | refine wQs fun K hK => ?_ | refine CallK_plain ?_ | refine CallQ_plain ?_ | refine CallR_plain ?_ | refine wCond ?_); simp [show ByteArray.empty = bs [] from rfl]) | (refine wIn ?_; refine And.intro (by kernel_rfl) ?_; try simp only [thenA_n]) | (first | refine wBlock ?_ | refine wScope ?_) | ((first | refine wRet ?_ | refine wExit ?_ | refine wSkip ?_); try simp) | ((first | refine wLabel ?_ | refine wOn ?_ | refine wQn ?_); try simp only [thenA_n]) | (refine CallE.pure (c) rfl ?_) | (refine CallE.lent (c) rfl ?_) | (refine CallF.pure (c) rfl ?_) | (refine CallF.lent (c) rfl ?_) | (refine CallE.own (c) ?_) | (refine CallH.pure (c) rfl ?_) | (refine CallH.lent (c) rfl ?_) | (refine CallH.own (c) ?_)
  refine wLoop (fun N st => st.s 4 = .ptr 4 0 ∧ st.b 4 = some (.box 37 [.nil 5, .nil 1, .p (I 0), .p (I 0), .p (I 0), .p (I 0), .nil 4, .p (I 0), .p (I 0)]) ∧ st.s 5 = .ptr 5 0 ∧ st.b 5 = some (.box 37 [.p (.sl 5 ns), .p (.sl 1 ss), .p (I nx), .p (I e), .p (I n), .p (I k), .p (.sl 4 ms), .p (I ae), .p (I an)]) ∧ st.s 13 = .p (.sl 8 []) ∧ st.s 14 = .p (I 0) ∧ st.s 15 = .p (I 0)) 0 (by simp) fun K N st hL ⟨g4, b4, g5, b5, g13, g14, g15⟩ => ?_
  repeat' first | (refine hK _ ?_; clear hK) | (refine hK _ _ ?_; clear hK) | (clear hK; refine hK _ ?_; clear hK) | (clear hK; clear hK; refine hK _ ?_; clear hK) | (clear hK; clear hK; clear hK; refine hK _ ?_; clear hK) | (clear hK; clear hK; clear hK; clear hK; refine hK _ ?_; clear hK) | (refine wSeq fun K hK => ?_) | ((first | refine wReg ?_ | refine wDrwQ rfl (by kernel_rfl) ?_ | refine wDrwI ?_ | refine wDrw (by kernel_rfl) ?_); simp only [List.map_cons, List.map_nil, strip]) | ((first | refine wIs fun K hK => ?_ | refine wOs fun K hK => ?_ | refine wQs fun K hK => ?_ | refine CallK_plain ?_ | refine CallQ_plain ?_ | refine CallR_plain ?_ | refine wCond ?_); simp [g4, b4, g5, b5, g13, g14, g15]) | (refine wIn ?_; refine And.intro (by kernel_rfl) ?_; try simp only [thenA_n]) | (first | refine wBlock ?_ | refine wScope ?_) | ((first | refine wRet ?_ | refine wExit ?_ | refine wSkip ?_); try simp) | ((first | refine wLabel ?_ | refine wOn ?_ | refine wQn ?_); try simp only [thenA_n])
  all_goals apply hr
  all_goals simp [Try.f65, g4, b4, b5]
theorem own16S_con (ns ss ms : List (List PV)) (nx e n k ae an : Int) (h1 : ns.length ≤ 1048576) (h2 : ss.length ≤ 1048576) (h3 : ms.length ≤ 1048576) : ACon Try.prog 55 [.p (.agg [.sl 5 ns, .sl 1 ss, I nx, I e, I n, I k, .sl 4 ms, I ae, I an])] (.p (.agg [.sl 5 ns, .sl 1 ss, I nx, I e, I n, I k, .sl 4 ms, I ae, I an])) := by
  have c := all8_con ns ss ms nx e n k ae an h1 h2 h3
  refine wBody Try.tab Try.mixed Try.func55 rfl rfl Try.ntmps55 (by simp) (by simp) fun Q hr hn => ?_
  repeat' first | (refine hK _ ?_; clear hK) | (refine hK _ _ ?_; clear hK) | (clear hK; refine hK _ ?_; clear hK) | (clear hK; clear hK; refine hK _ ?_; clear hK) | (clear hK; clear hK; clear hK; refine hK _ ?_; clear hK) | (clear hK; clear hK; clear hK; clear hK; refine hK _ ?_; clear hK) | (refine wSeq fun K hK => ?_) | ((first | refine wReg ?_ | refine wDrwQ rfl (by kernel_rfl) ?_ | refine wDrwI ?_ | refine wDrw (by kernel_rfl) ?_); simp only [List.map_cons, List.map_nil, strip]) | ((first | refine wIs fun K hK => ?_ | refine wOs fun K hK => ?_ | refine wQs fun K hK => ?_ | refine CallK_plain ?_ | refine CallQ_plain ?_ | refine CallR_plain ?_ | refine wCond ?_); simp) | (refine wIn ?_; refine And.intro (by kernel_rfl) ?_; try simp only [thenA_n]) | (first | refine wBlock ?_ | refine wScope ?_) | ((first | refine wRet ?_ | refine wExit ?_ | refine wSkip ?_); try simp) | ((first | refine wLabel ?_ | refine wOn ?_ | refine wQn ?_); try simp only [thenA_n]) | (refine CallE.pure (c) rfl ?_) | (refine CallE.lent (c) rfl ?_) | (refine CallF.pure (c) rfl ?_) | (refine CallF.lent (c) rfl ?_) | (refine CallE.own (c) ?_) | (refine CallH.pure (c) rfl ?_) | (refine CallH.lent (c) rfl ?_) | (refine CallH.own (c) ?_)
  all_goals apply hr
  all_goals simp [Try.f55]
theorem take_snR (l : List (List PV)) (k : Nat) (h : k < l.length) : l.take k ++ [l[k]] = l.take (k + 1) := (List.take_succ_eq_append_getElem h).symm
set_option maxHeartbeats 4000000 in
theorem copied16R (r : List PV) (ho : fTx.ok r) (hz : Zs r) : ACon Try.prog 66 [.p (.agg r)] (.p (.agg r)) := by
  obtain ⟨x0, x1, x2, x3, x4, x5, x6, l, rfl, -, -, -, -, -, -, hp⟩ := fTx_sh ho
  have hzl := hz (.sl 11 l) (by simp)
  have hl := z1_len hzl
  have hpo := (fl_ok hp).2
  refine wBody Try.tab Try.mixed Try.func66 rfl rfl Try.ntmps66 (by simp) (by simp) fun Q hr hn => ?_
  repeat' first | (refine hK _ ?_; clear hK) | (refine hK _ _ ?_; clear hK) | (clear hK; refine hK _ ?_; clear hK) | (clear hK; clear hK; refine hK _ ?_; clear hK) | (clear hK; clear hK; clear hK; refine hK _ ?_; clear hK) | (clear hK; clear hK; clear hK; clear hK; refine hK _ ?_; clear hK) | (refine wSeq fun K hK => ?_) | ((first | refine wReg ?_ | refine wDrwQ rfl (by kernel_rfl) ?_ | refine wDrwI ?_ | refine wDrw (by kernel_rfl) ?_); simp only [List.map_cons, List.map_nil, strip]) | ((first | refine wIs fun K hK => ?_ | refine wOs fun K hK => ?_ | refine wQs fun K hK => ?_ | refine CallK_plain ?_ | refine CallQ_plain ?_ | refine CallR_plain ?_ | refine wCond ?_); simp) | (refine wIn ?_; refine And.intro (by kernel_rfl) ?_; try simp only [thenA_n]) | (first | refine wBlock ?_ | refine wScope ?_) | ((first | refine wRet ?_ | refine wExit ?_ | refine wSkip ?_); try simp) | ((first | refine wLabel ?_ | refine wOn ?_ | refine wQn ?_); try simp only [thenA_n])
  refine wLoopG [.cel 1 7 26 74 11] (fun N st => ∃ (k : Nat), k + N = l.length ∧ st.s 1 = .ptr 1 0 ∧ st.b 1 = some (.box 44 [.p (I x0), .p (I x1), .p (I x2), .p (I x3), .p (I x4), .p (I x5), .p (SB x6), .row 26]) ∧ st.s 2 = .ptr 2 0 ∧ st.b 2 = some (.box 44 [.p (I 0), .p (I 0), .p (I 0), .p (I 0), .p (I 0), .p (I 0), .p (SB []), .nil 11]) ∧ st.b 26 = some (.row 74 11 (l.take k)) ∧ st.s 9 = .p (.sl 11 l) ∧ st.s 10 = .p (I l.length) ∧ st.s 11 = .p (I k)) l.length ⟨0, by simp [frzL, gh1, show ByteArray.empty = bs [] from rfl]⟩ fun K N st hL ⟨k, hk, g1, b1, g2, b2, b26, g9, g10, g11⟩ => ?_
  by_cases hlt : k < l.length
  · have hlt' : (k : Int) < l.length := by omega
    have hw := wrapS k _ hlt (by omega)
    have he : l[k]? = some l[k] := List.getElem?_eq_getElem hlt
    have hpc := z1_row hzl (List.getElem_mem hlt)
    have hok := hpo _ (List.getElem_mem hlt)
    have hs := take_snR l k hlt
    have hll : (l.take k).length = k := by rw [List.length_take]; omega
    generalize hQ : l[k] = q at *
    obtain ⟨z0, z1, z2, z3, z4, z5, z6, z7, z8, z9, z10, rfl, -⟩ := fPt_sh hok
    have hm := z1_len (hpc (.sl 4 z10) (by simp))
    repeat' first | (refine And.intro (by (try simp only [hll, List.length_cons, List.length_nil]); omega) ?_) | (refine Or.inr ?_) | (refine hK _ ?_; clear hK) | (refine hK _ _ ?_; clear hK) | (clear hK; refine hK _ ?_; clear hK) | (clear hK; clear hK; refine hK _ ?_; clear hK) | (clear hK; clear hK; clear hK; refine hK _ ?_; clear hK) | (clear hK; clear hK; clear hK; clear hK; refine hK _ ?_; clear hK) | (refine wSeq fun K hK => ?_) | ((first | refine wReg ?_ | refine wDrwQ rfl (by kernel_rfl) ?_ | refine wDrwI ?_ | refine wDrw (by kernel_rfl) ?_); simp only [List.map_cons, List.map_nil, strip]) | ((first | refine wIs fun K hK => ?_ | refine wOs fun K hK => ?_ | refine wQs fun K hK => ?_ | refine CallK_plain ?_ | refine CallQ_plain ?_ | refine CallR_plain ?_ | refine wCond ?_); simp [g1, b1, g2, b2, b26, g9, g10, g11, hlt, hlt', hw, he, hQ, hs]) | (refine wIn ?_; refine And.intro (by kernel_rfl) ?_; try simp only [thenA_n]) | (first | refine wBlock ?_ | refine wScope ?_) | ((first | refine wRet ?_ | refine wExit ?_ | refine wSkip ?_); try simp) | ((first | refine wLabel ?_ | refine wOn ?_ | refine wQn ?_); try simp only [thenA_n])
    refine hL _ (N - 1) (by omega) ⟨k + 1, by omega, ?_⟩
    simp [g1, b1, g2, b2, b26, g9, g10, g11, hw, hs]
  · have hlt' : ¬ (k : Int) < l.length := by omega
    rw [List.take_of_length_le (by omega)] at b26
    repeat' first | (refine hK _ ?_; clear hK) | (refine hK _ _ ?_; clear hK) | (clear hK; refine hK _ ?_; clear hK) | (clear hK; clear hK; refine hK _ ?_; clear hK) | (clear hK; clear hK; clear hK; refine hK _ ?_; clear hK) | (clear hK; clear hK; clear hK; clear hK; refine hK _ ?_; clear hK) | (refine wSeq fun K hK => ?_) | ((first | refine wReg ?_ | refine wDrwQ rfl (by kernel_rfl) ?_ | refine wDrwI ?_ | refine wDrw (by kernel_rfl) ?_); simp only [List.map_cons, List.map_nil, strip]) | ((first | refine wIs fun K hK => ?_ | refine wOs fun K hK => ?_ | refine wQs fun K hK => ?_ | refine CallK_plain ?_ | refine CallQ_plain ?_ | refine CallR_plain ?_ | refine wCond ?_); simp [g1, b1, g2, b2, b26, g9, g10, g11, hlt, hlt']) | (refine wIn ?_; refine And.intro (by kernel_rfl) ?_; try simp only [thenA_n]) | (first | refine wBlock ?_ | refine wScope ?_) | ((first | refine wRet ?_ | refine wExit ?_ | refine wSkip ?_); try simp) | ((first | refine wLabel ?_ | refine wOn ?_ | refine wQn ?_); try simp only [thenA_n])
    all_goals apply hr
    all_goals simp [Try.f66, g2, b26]
end Go.Proofs.Ytechjohebkcjiaa
