/- Texts that the proof needs: RD1 RD2 RG4 RG4a. -/
import Derived.Test.YtechjohebkcjiaaP19LinkTakes
import Derived.Test.YtechjohebkcjiaaP20LinkTakes
/- Records, the document's: numbers laid one behind the other; zxids, lists of numbers, members. -/
namespace Go.Proofs.Ytechjohebkcjiaa
set_option linter.unusedSimpArgs false
set_option linter.unusedVariables false
set_option maxRecDepth 8000
open Go Go.Av
attribute [local simp] Try.T1 Try.T2 Try.T3 Try.T4 Try.T5 Try.T9 Try.T12 Try.T15 Try.T16 Try.T17 Try.T21 Try.T22 Try.T23 Try.T24 Try.T25 Try.T27 Try.T29 Try.T30 Try.T31 Try.T32 Try.T33 Try.T35 Try.T37 Try.T38 Try.T40 Try.T41 Try.T42 Try.T44 Try.T45 Try.T47 Try.T49 Try.T51 Try.T53 Try.T54 Try.T55 Try.T56 Try.T57 Try.T58 Try.T59 Try.T60 Try.T61 Try.T62 Try.T63 Try.T64 Try.T66 Try.T67 Try.T68 Try.T69 Try.T70 Try.T72 Try.T74 Try.T76 Try.T77 Try.T78 Try.T79 Try.T80 Try.T81 Try.T82 Try.T83 Try.T84 Try.T85 Try.T87 Try.T88 Try.T89 Try.T90 Try.T91 Try.T92 Try.T93 Try.T94 Try.T96 Try.T97 Try.T98 Try.T99 Try.T100 Try.T101 Try.T102 Try.T103 Try.T104 Try.T105 Try.T106 Try.T107 Try.T108 Try.T109 Try.T110 Try.T111 Try.T113 Try.T114 Try.T115 Try.T116 Try.T117 Try.T118 Try.T119 Try.T120 Try.T121 Try.T122 Try.T123 Try.T124 Try.T125 Try.T126 Try.T127 Try.T128 Try.T129 Try.T130 Try.T133 Try.T136 Try.T137 Try.T140 Try.T141
attribute [local irreducible] Go.Av.CallK Go.Av.CallE Go.Av.CallQ Go.Av.CallF Go.Av.CallR Go.Av.CallH Go.Av.Con
/-- The bytes of some numbers. -/
def catZ (l : List Int) : List UInt8 := (l.map fun n => enc (zz n)).flatten
theorem catZ_take {l : List Int} {k : Nat} (h : k < l.length) : catZ (l.take (k + 1)) = catZ (l.take k) ++ enc (zz l[k]) := by
  unfold catZ; rw [List.take_succ_eq_append_getElem h, List.map_append, List.flatten_append]; simp
theorem catZ_len {l : List Int} (h : ∀ n ∈ l, okI n) : ∀ k, (catZ (l.take k)).length ≤ 10 * k := by
  intro k
  induction k with
  | zero => simp [catZ]
  | succ k ih =>
    by_cases hk : k < l.length
    · rw [catZ_take hk, List.length_append]
      have := enc_len10 (zz_lt (h _ (List.getElem_mem hk)))
      omega
    · rw [List.take_of_length_le (by omega)] at ih ⊢
      omega
set_option maxHeartbeats 1000000 in
theorem nums12_con (b : List UInt8) (l : List Int) (h : ∀ n ∈ l, okI n) (hl : l.length ≤ 1000000) (hb : b.length ≤ 50000000) : ACon Try.prog 40 [.p (.sl 1 (by8 b)), .p (.sl 1 (ints l))] (.p (.sl 1 (by8 (b ++ catZ l)))) := by
  refine wBody Try.tab Try.mixed Try.func40 rfl rfl Try.ntmps40 (by simp) (by simp) fun Q hr hn => ?_
  repeat' first | (refine hK _ ?_; clear hK) | (refine hK _ _ ?_; clear hK) | (clear hK; refine hK _ ?_; clear hK) | (clear hK; clear hK; refine hK _ ?_; clear hK) | (clear hK; clear hK; clear hK; refine hK _ ?_; clear hK) | (clear hK; clear hK; clear hK; clear hK; refine hK _ ?_; clear hK) | (refine wSeq fun K hK => ?_) | ((first | refine wReg ?_ | refine wDrwQ rfl (by kernel_rfl) ?_ | refine wDrwI ?_ | refine wDrw (by kernel_rfl) ?_); simp only [List.map_cons, List.map_nil, strip]) | ((first | refine wIs fun K hK => ?_ | refine wOs fun K hK => ?_ | refine wQs fun K hK => ?_ | refine CallK_plain ?_ | refine CallQ_plain ?_ | refine CallR_plain ?_ | refine wCond ?_); simp) | (refine wIn ?_; refine And.intro (by kernel_rfl) ?_; try simp only [thenA_n]) | (first | refine wBlock ?_ | refine wScope ?_) | ((first | refine wRet ?_ | refine wExit ?_ | refine wSkip ?_); try simp) | ((first | refine wLabel ?_ | refine wOn ?_ | refine wQn ?_); try simp only [thenA_n])
  refine wLoop (fun N st => ∃ k, k + N = l.length ∧ st.s 0 = .p (.sl 1 (by8 (b ++ catZ (l.take k)))) ∧ st.s 7 = .p (.sl 1 (ints l)) ∧ st.s 8 = .p (I l.length) ∧ st.s 9 = .p (I k)) l.length ⟨0, by simp [catZ]⟩ fun K N st hL ⟨k, hk, g0, g7, g8, g9⟩ => ?_
  by_cases hlt : k < l.length
  · have hlt' : (k : Int) < l.length := by omega
    have hw := wrapS k _ hlt (by omega)
    have he := ints_get hlt
    have hln := catZ_len h k
    have c := (putInt01_con (b ++ catZ (l.take k)) l[k] (h _ (List.getElem_mem hlt)) (by rw [List.length_append]; omega)).toPure
    rw [List.append_assoc, ← catZ_take hlt] at c
    repeat' first | (refine hK _ ?_; clear hK) | (refine hK _ _ ?_; clear hK) | (clear hK; refine hK _ ?_; clear hK) | (clear hK; clear hK; refine hK _ ?_; clear hK) | (clear hK; clear hK; clear hK; refine hK _ ?_; clear hK) | (clear hK; clear hK; clear hK; clear hK; refine hK _ ?_; clear hK) | (refine wSeq fun K hK => ?_) | ((first | refine wReg ?_ | refine wDrwQ rfl (by kernel_rfl) ?_ | refine wDrwI ?_ | refine wDrw (by kernel_rfl) ?_); simp only [List.map_cons, List.map_nil, strip]) | ((first | refine wIs fun K hK => ?_ | refine wOs fun K hK => ?_ | refine wQs fun K hK => ?_ | refine CallK_plain ?_ | refine CallQ_plain ?_ | refine CallR_plain ?_ | refine wCond ?_); simp [g0, g7, g8, g9, hlt, hlt', hw, he]) | (refine wIn ?_; refine And.intro (by kernel_rfl) ?_; try simp only [thenA_n]) | (first | refine wBlock ?_ | refine wScope ?_) | ((first | refine wRet ?_ | refine wExit ?_ | refine wSkip ?_); try simp) | ((first | refine wLabel ?_ | refine wOn ?_ | refine wQn ?_); try simp only [thenA_n]) | (refine CallE.pure (c) rfl ?_) | (refine CallE.lent (c) rfl ?_) | (refine CallF.pure (c) rfl ?_) | (refine CallF.lent (c) rfl ?_) | (refine CallE.own (c) ?_) | (refine CallH.pure (c) rfl ?_) | (refine CallH.lent (c) rfl ?_) | (refine CallH.own (c) ?_)
    refine hL _ (N - 1) (by omega) ⟨k + 1, by omega, ?_⟩
    simp [g0, g7, g8, g9, hw]
  · have hlt' : ¬ (k : Int) < l.length := by omega
    rw [List.take_of_length_le (by omega)] at g0
    repeat' first | (refine hK _ ?_; clear hK) | (refine hK _ _ ?_; clear hK) | (clear hK; refine hK _ ?_; clear hK) | (clear hK; clear hK; refine hK _ ?_; clear hK) | (clear hK; clear hK; clear hK; refine hK _ ?_; clear hK) | (clear hK; clear hK; clear hK; clear hK; refine hK _ ?_; clear hK) | (refine wSeq fun K hK => ?_) | ((first | refine wReg ?_ | refine wDrwQ rfl (by kernel_rfl) ?_ | refine wDrwI ?_ | refine wDrw (by kernel_rfl) ?_); simp only [List.map_cons, List.map_nil, strip]) | ((first | refine wIs fun K hK => ?_ | refine wOs fun K hK => ?_ | refine wQs fun K hK => ?_ | refine CallK_plain ?_ | refine CallQ_plain ?_ | refine CallR_plain ?_ | refine wCond ?_); simp [g0, g7, g8, g9, hlt, hlt']) | (refine wIn ?_; refine And.intro (by kernel_rfl) ?_; try simp only [thenA_n]) | (first | refine wBlock ?_ | refine wScope ?_) | ((first | refine wRet ?_ | refine wExit ?_ | refine wSkip ?_); try simp) | ((first | refine wLabel ?_ | refine wOn ?_ | refine wQn ?_); try simp only [thenA_n])
    all_goals apply hr
    all_goals simp [Try.f40, g0]
theorem zxid12_con (b : List UInt8) (e n : Int) (he : okI e) (hn' : okI n) (hb : b.length ≤ 50000000) : ACon Try.prog 41 [.p (.sl 1 (by8 b)), .p (.agg [I e, I n])] (.p (.sl 1 (by8 (b ++ catZ [e, n])))) := by
  have h1 := enc_len10 (zz_lt he)
  have c1 := (putInt01_con b e he (by omega)).toPure
  have c2 := (putInt01_con (b ++ enc (zz e)) n hn' (by rw [List.length_append]; omega)).toPure
  rw [List.append_assoc, show enc (zz e) ++ enc (zz n) = catZ [e, n] by simp [catZ]] at c2
  generalize b ++ catZ [e, n] = r at *
  generalize b ++ enc (zz e) = x at *
  refine wBody Try.tab Try.mixed Try.func41 rfl rfl Try.ntmps41 (by simp) (by simp) fun Q hr hn => ?_
  repeat' first | (refine hK _ ?_; clear hK) | (refine hK _ _ ?_; clear hK) | (clear hK; refine hK _ ?_; clear hK) | (clear hK; clear hK; refine hK _ ?_; clear hK) | (clear hK; clear hK; clear hK; refine hK _ ?_; clear hK) | (clear hK; clear hK; clear hK; clear hK; refine hK _ ?_; clear hK) | (refine wSeq fun K hK => ?_) | ((first | refine wReg ?_ | refine wDrwQ rfl (by kernel_rfl) ?_ | refine wDrwI ?_ | refine wDrw (by kernel_rfl) ?_); simp only [List.map_cons, List.map_nil, strip]) | ((first | refine wIs fun K hK => ?_ | refine wOs fun K hK => ?_ | refine wQs fun K hK => ?_ | refine CallK_plain ?_ | refine CallQ_plain ?_ | refine CallR_plain ?_ | refine wCond ?_); simp) | (refine wIn ?_; refine And.intro (by kernel_rfl) ?_; try simp only [thenA_n]) | (first | refine wBlock ?_ | refine wScope ?_) | ((first | refine wRet ?_ | refine wExit ?_ | refine wSkip ?_); try simp) | ((first | refine wLabel ?_ | refine wOn ?_ | refine wQn ?_); try simp only [thenA_n]) | (refine CallE.pure (c1) rfl ?_) | (refine CallE.lent (c1) rfl ?_) | (refine CallF.pure (c1) rfl ?_) | (refine CallF.lent (c1) rfl ?_) | (refine CallE.own (c1) ?_) | (refine CallH.pure (c1) rfl ?_) | (refine CallH.lent (c1) rfl ?_) | (refine CallH.own (c1) ?_) | (refine CallE.pure (c2) rfl ?_) | (refine CallE.lent (c2) rfl ?_) | (refine CallF.pure (c2) rfl ?_) | (refine CallF.lent (c2) rfl ?_) | (refine CallE.own (c2) ?_) | (refine CallH.pure (c2) rfl ?_) | (refine CallH.lent (c2) rfl ?_) | (refine CallH.own (c2) ?_)
  all_goals apply hr
  all_goals simp [Try.f41]
theorem ints12_con (b : List UInt8) (l : List Int) (h : ∀ n ∈ l, okI n) (hl : l.length ≤ 1000000) (hb : b.length ≤ 40000000) : ACon Try.prog 47 [.p (.sl 1 (by8 b)), .p (.sl 1 (ints l))] (.p (.sl 1 (by8 (b ++ catZ ((l.length : Int) :: l))))) := by
  have h0 : okI (l.length : Int) := ⟨by omega, by omega⟩
  have h1 := enc_len10 (zz_lt h0)
  have c1 := (putInt01_con b l.length h0 (by omega)).toPure
  have c2 := nums12_con (b ++ enc (zz l.length)) l h hl (by rw [List.length_append]; omega)
  rw [List.append_assoc, show enc (zz (l.length : Int)) ++ catZ l = catZ ((l.length : Int) :: l) by simp [catZ]] at c2
  generalize b ++ catZ ((l.length : Int) :: l) = r at *
  generalize b ++ enc (zz (l.length : Int)) = x at *
  have hl' : l.length < 9223372036854775808 := by omega
  refine wBody Try.tab Try.mixed Try.func47 rfl rfl Try.ntmps47 (by simp) (by simp) fun Q hr hn => ?_
  repeat' first | (refine hK _ ?_; clear hK) | (refine hK _ _ ?_; clear hK) | (clear hK; refine hK _ ?_; clear hK) | (clear hK; clear hK; refine hK _ ?_; clear hK) | (clear hK; clear hK; clear hK; refine hK _ ?_; clear hK) | (clear hK; clear hK; clear hK; clear hK; refine hK _ ?_; clear hK) | (refine wSeq fun K hK => ?_) | ((first | refine wReg ?_ | refine wDrwQ rfl (by kernel_rfl) ?_ | refine wDrwI ?_ | refine wDrw (by kernel_rfl) ?_); simp only [List.map_cons, List.map_nil, strip]) | ((first | refine wIs fun K hK => ?_ | refine wOs fun K hK => ?_ | refine wQs fun K hK => ?_ | refine CallK_plain ?_ | refine CallQ_plain ?_ | refine CallR_plain ?_ | refine wCond ?_); simp [hl']) | (refine wIn ?_; refine And.intro (by kernel_rfl) ?_; try simp only [thenA_n]) | (first | refine wBlock ?_ | refine wScope ?_) | ((first | refine wRet ?_ | refine wExit ?_ | refine wSkip ?_); try simp) | ((first | refine wLabel ?_ | refine wOn ?_ | refine wQn ?_); try simp only [thenA_n]) | (refine CallE.pure (c1) rfl ?_) | (refine CallE.lent (c1) rfl ?_) | (refine CallF.pure (c1) rfl ?_) | (refine CallF.lent (c1) rfl ?_) | (refine CallE.own (c1) ?_) | (refine CallH.pure (c1) rfl ?_) | (refine CallH.lent (c1) rfl ?_) | (refine CallH.own (c1) ?_) | (refine CallE.pure (c2) rfl ?_) | (refine CallE.lent (c2) rfl ?_) | (refine CallF.pure (c2) rfl ?_) | (refine CallF.lent (c2) rfl ?_) | (refine CallE.own (c2) ?_) | (refine CallH.pure (c2) rfl ?_) | (refine CallH.lent (c2) rfl ?_) | (refine CallH.own (c2) ?_)
  all_goals apply hr
  all_goals simp [Try.f47]
theorem flag12_con (b : Bool) : ACon Try.prog 60 [.p (B b)] (.p (I (if b = true then 1 else 0))) := by
  cases b
  all_goals
    refine wBody Try.tab Try.mixed Try.func60 rfl rfl Try.ntmps60 (by simp) (by simp) fun Q hr hn => ?_
    repeat' first | (refine hK _ ?_; clear hK) | (refine hK _ _ ?_; clear hK) | (clear hK; refine hK _ ?_; clear hK) | (clear hK; clear hK; refine hK _ ?_; clear hK) | (clear hK; clear hK; clear hK; refine hK _ ?_; clear hK) | (clear hK; clear hK; clear hK; clear hK; refine hK _ ?_; clear hK) | (refine wSeq fun K hK => ?_) | ((first | refine wReg ?_ | refine wDrwQ rfl (by kernel_rfl) ?_ | refine wDrwI ?_ | refine wDrw (by kernel_rfl) ?_); simp only [List.map_cons, List.map_nil, strip]) | ((first | refine wIs fun K hK => ?_ | refine wOs fun K hK => ?_ | refine wQs fun K hK => ?_ | refine CallK_plain ?_ | refine CallQ_plain ?_ | refine CallR_plain ?_ | refine wCond ?_); simp) | (refine wIn ?_; refine And.intro (by kernel_rfl) ?_; try simp only [thenA_n]) | (first | refine wBlock ?_ | refine wScope ?_) | ((first | refine wRet ?_ | refine wExit ?_ | refine wSkip ?_); try simp) | ((first | refine wLabel ?_ | refine wOn ?_ | refine wQn ?_); try simp only [thenA_n])
    all_goals apply hr
    all_goals simp [Try.f60]
/- Records, the document's: texts, members, nodes, configs. -/
theorem zzl (n : Nat) (h : n ≤ 1000000000) : okI (n : Int) := ⟨by omega, by omega⟩
theorem putText12_con (b s : List UInt8) (h : b.length ≤ 100000000) (hs : s.length ≤ 100000000) : BCon 59 [.p (.sl 1 (by8 b)), .p (SB s)] (b ++ (enc (zz s.length) ++ s)) := by
  have c1 := putInt01_con b s.length (zzl _ (by omega)) (by omega)
  have hel := enc_len10 (zz_lt (zzl s.length (by omega)))
  have hx := by8_app (b ++ enc (zz s.length)) s
  have hbm : (s.map fun b => [PV.v (.int .u8 b.toNat)]) = by8 s := rfl
  rw [List.append_assoc] at hx
  generalize enc (zz s.length) = z at c1 hel hx ⊢
  refine wBodyR Try.tab Try.mixed Try.func59 rfl rfl Try.ntmps59 rfl (by simp) (by simp) fun Q hr hn => ?_
  repeat' first | (refine And.intro (by omega) ?_) | (refine hK _ ?_; clear hK) | (refine hK _ _ ?_; clear hK) | (clear hK; refine hK _ ?_; clear hK) | (clear hK; clear hK; refine hK _ ?_; clear hK) | (clear hK; clear hK; clear hK; refine hK _ ?_; clear hK) | (clear hK; clear hK; clear hK; clear hK; refine hK _ ?_; clear hK) | (refine wSeq fun K hK => ?_) | ((first | refine wReg ?_ | refine wDrwQ rfl (by kernel_rfl) ?_ | refine wDrwI ?_ | refine wDrw (by kernel_rfl) ?_); simp only [List.map_cons, List.map_nil, strip]) | ((first | refine wIs fun K hK => ?_ | refine wOs fun K hK => ?_ | refine wQs fun K hK => ?_ | refine CallK_plain ?_ | refine CallQ_plain ?_ | refine CallR_plain ?_ | refine wCond ?_); simp) | (refine wIn ?_; refine And.intro (by kernel_rfl) ?_; try simp only [thenA_n]) | (first | refine wBlock ?_ | refine wScope ?_) | ((first | refine wRet ?_ | refine wExit ?_ | refine wSkip ?_); try simp) | ((first | refine wLabel ?_ | refine wOn ?_ | refine wQn ?_); try simp only [thenA_n]) | (refine CallE.pure (c1) rfl ?_) | (refine CallE.lent (c1) rfl ?_) | (refine CallF.pure (c1) rfl ?_) | (refine CallF.lent (c1) rfl ?_) | (refine CallE.own (c1) ?_) | (refine CallH.pure (c1) rfl ?_) | (refine CallH.lent (c1) rfl ?_) | (refine CallH.own (c1) ?_)
  all_goals refine hr _ 8 ?_ ?_ (by omega)
  all_goals simp [Try.f59, hbm, hx]
/-- The bytes of a text. -/
def txB (s : List UInt8) : List UInt8 := enc (zz s.length) ++ s
theorem text12_con (b s : List UInt8) (h : b.length ≤ 100000000) (hs : s.length ≤ 100000000) : ACon Try.prog 59 [.p (.sl 1 (by8 b)), .p (SB s)] (.p (.sl 1 (by8 (b ++ txB s)))) := (putText12_con b s h hs).toPure
structure OkMr (m : Mb) : Prop where
  i : okI m.i
  r : okI m.r
  w : okI m.w
  g : okI m.g
/- Records, the document's: numbers, texts, places, nodes, members, configs. -/
theorem catZ2 (a b : Int) : catZ [a, b] = foI.en [I a] ++ foI.en [I b] := by simp [catZ]
theorem catZ3 (a b c : Int) : catZ [a, b, c] = foI.en [I a] ++ (foI.en [I b] ++ foI.en [I c]) := by simp [catZ]
def flO (x : Bool) : Int := if x = true then 1 else 0
theorem flO_ok (x : Bool) : okI (flO x) := by cases x <;> exact ⟨by decide, by decide⟩
theorem catZ4 (a b c d : Int) : catZ [a, b, c, d] = foI.en [I a] ++ (foI.en [I b] ++ (foI.en [I c] ++ foI.en [I d])) := by simp [catZ]
theorem catZ6 (a b c d e f : Int) : catZ [a, b, c, d, e, f] = foI.en [I a] ++ (foI.en [I b] ++ (foI.en [I c] ++ (foI.en [I d] ++ (foI.en [I e] ++ foI.en [I f])))) := by simp [catZ]
abbrev DCon (g : FuncId) (b : List UInt8) (v : V) (r : List UInt8) : Prop := ACon Try.prog g [.p (.sl 1 (by8 b)), v] (.p (.sl 1 (by8 r)))
theorem dLen (b : List UInt8) (n : Nat) (ho : okI (n : Int)) (h : (b ++ enc (zz (n : Int))).length ≤ 1000000) : DCon 42 b (.p (I n)) (b ++ enc (zz (n : Int))) :=
  (putInt01_con b n ho (by rw [List.length_append] at h; omega)).toPure
theorem dInt (b : List UInt8) (n : Int) (ho : foI.ok [I n]) (h : (b ++ foI.en [I n]).length ≤ 1000000) : DCon 42 b (.p (I n)) (b ++ foI.en [I n]) :=
  (putInt01_con b n (foI_ok.1 ho) (by rw [List.length_append] at h; omega)).toPure
theorem dText (b s : List UInt8) (ho : foS.ok [SB s]) (h : (b ++ foS.en [SB s]).length ≤ 1000000) : DCon 59 b (.p (SB s)) (b ++ foS.en [SB s]) := by
  rw [foS_en] at h ⊢
  simp only [List.length_append] at h
  exact text12_con b s (by omega) (by omega)
theorem dNums (b : List UInt8) (l : List Int) (ho : ∀ n ∈ l, okI n) (hl : l.length ≤ 1000) (h : (b ++ catZ l).length ≤ 1000000) : DCon 40 b (.p (.sl 1 (ints l))) (b ++ catZ l) :=
  nums12_con b l ho (by omega) (by rw [List.length_append] at h; omega)
theorem dZx (b : List UInt8) (cs : List PV) (hk : fZx.ok cs) (h : (b ++ fZx.en cs).length ≤ 1000000) : DCon 41 b (vOf cs) (b ++ fZx.en cs) := by
  obtain ⟨e, n, rfl, k0, k1⟩ := fZx_sh hk
  rw [fZx_en, ← catZ2] at h ⊢
  exact zxid12_con b e n (foI_ok.1 k0) (foI_ok.1 k1) (by rw [List.length_append] at h; omega)
theorem rows_ints {rows : List (List PV)} (h : ∀ r ∈ rows, foI.ok r) : ∃ l, rows = ints l ∧ ∀ n ∈ l, okI n := by
  induction rows with
  | nil => exact ⟨[], rfl, by simp⟩
  | cons r rows ih =>
    obtain ⟨l, rfl, hl⟩ := ih fun x hx => h x (List.mem_cons_of_mem _ hx)
    obtain ⟨n, rfl, hn⟩ := h r List.mem_cons_self
    refine ⟨n :: l, rfl, fun m hm => ?_⟩
    rcases List.mem_cons.1 hm with rfl | hm
    · exact hn
    · exact hl m hm
theorem catZ_ge (l : List Int) : l.length ≤ (catZ l).length := by
  induction l with
  | nil => simp
  | cons n l ih =>
    have := enc_pos (zz n)
    show _ ≤ (enc (zz n) ++ catZ l).length
    rw [List.length_append, List.length_cons]; omega
theorem dlI (b : List UInt8) (rows : List (List PV)) (hk : (fl 1 foI).ok [.sl 1 rows]) (h : (b ++ (fl 1 foI).en [.sl 1 rows]).length ≤ 1000000) : DCon 47 b (.p (.sl 1 rows)) (b ++ (fl 1 foI).en [.sl 1 rows]) := by
  obtain ⟨hl, ho⟩ := fl_ok hk
  obtain ⟨l, rfl, hl2⟩ := rows_ints ho
  have he : (fl 1 foI).en [.sl 1 (ints l)] = catZ ((l.length : Int) :: l) := by
    rw [fl_en, ints_len]
    show _ = enc (zz (l.length : Int)) ++ catZ l
    congr 1
    have : ∀ l : List Int, (ints l).flatMap foI.en = catZ l := by
      intro l
      induction l with
      | nil => rfl
      | cons n l ih => show foI.en [I n] ++ (ints l).flatMap foI.en = enc (zz n) ++ catZ l; rw [ih]; rfl
    exact this l
  rw [he] at h ⊢
  have hg : l.length ≤ (catZ l).length := catZ_ge l
  have h2 : (catZ ((l.length : Int) :: l)).length = (enc (zz (l.length : Int))).length + (catZ l).length := by show (enc (zz (l.length : Int)) ++ catZ l).length = _; rw [List.length_append]
  rw [List.length_append, h2] at h
  exact ints12_con b l hl2 (by omega) (by omega)
set_option maxHeartbeats 4000000 in
theorem dlMb (b : List UInt8) (rows : List (List PV)) (hk : (fl 4 fMb).ok [.sl 4 rows]) (h : (b ++ (fl 4 fMb).en [.sl 4 rows]).length ≤ 1000000) : ACon Try.prog 61 [.p (.sl 1 (by8 b)), .p (.sl 4 rows)] (.p (.sl 1 (by8 (b ++ (fl 4 fMb).en [.sl 4 rows])))) := by
  obtain ⟨hl, ho⟩ := fl_ok hk
  have hL : okI (rows.length : Int) := ⟨by omega, by omega⟩
  have hres : b ++ (fl 4 fMb).en [.sl 4 rows] = b ++ enc (zz (rows.length : Int)) ++ rows.flatMap fMb.en := by simp only [fl_en, catZ2, catZ3, catZ4, catZ6, foI_en, List.append_assoc]
  rw [hres] at h ⊢
  clear hres
  have c0 := dLen b _ hL (by simp only [List.length_append] at h ⊢; omega)
  have hM : (b ++ enc (zz (rows.length : Int)) ++ rows.flatMap fMb.en).length ≤ 1000000 := by simp only [List.length_append] at h ⊢; omega
  generalize hX : b ++ enc (zz (rows.length : Int)) = X at *
  clear hX
  have hl' : rows.length < 9223372036854775808 := by omega
  try simp only [ints, List.map_cons, List.map_nil] at *
  refine wBody Try.tab Try.mixed Try.func61 rfl rfl Try.ntmps61 (by simp) (by simp) fun Q hr hn => ?_
  repeat' first | (refine hK _ ?_; clear hK) | (refine hK _ _ ?_; clear hK) | (clear hK; refine hK _ ?_; clear hK) | (clear hK; clear hK; refine hK _ ?_; clear hK) | (clear hK; clear hK; clear hK; refine hK _ ?_; clear hK) | (clear hK; clear hK; clear hK; clear hK; refine hK _ ?_; clear hK) | (refine wSeq fun K hK => ?_) | ((first | refine wReg ?_ | refine wDrwQ rfl (by kernel_rfl) ?_ | refine wDrwI ?_ | refine wDrw (by kernel_rfl) ?_); simp only [List.map_cons, List.map_nil, strip]) | ((first | refine wIs fun K hK => ?_ | refine wOs fun K hK => ?_ | refine wQs fun K hK => ?_ | refine CallK_plain ?_ | refine CallQ_plain ?_ | refine CallR_plain ?_ | refine wCond ?_); simp [hl']) | (refine wIn ?_; refine And.intro (by kernel_rfl) ?_; try simp only [thenA_n]) | (first | refine wBlock ?_ | refine wScope ?_) | ((first | refine wRet ?_ | refine wExit ?_ | refine wSkip ?_); try simp) | ((first | refine wLabel ?_ | refine wOn ?_ | refine wQn ?_); try simp only [thenA_n]) | (refine CallE.pure (c0) rfl ?_) | (refine CallE.lent (c0) rfl ?_) | (refine CallF.pure (c0) rfl ?_) | (refine CallF.lent (c0) rfl ?_) | (refine CallE.own (c0) ?_) | (refine CallH.pure (c0) rfl ?_) | (refine CallH.lent (c0) rfl ?_) | (refine CallH.own (c0) ?_)
  refine wLoop (fun N st => ∃ k, k + N = rows.length ∧ st.s 0 = .p (.sl 1 (by8 (X ++ (rows.take k).flatMap fMb.en))) ∧ st.s 11 = .p (.sl 4 rows) ∧ st.s 12 = .p (I rows.length) ∧ st.s 13 = .p (I k)) rows.length ⟨0, by simp⟩ fun K N st hL2 ⟨k, hk, g0, gl, gn, gi⟩ => ?_
  by_cases hlt : k < rows.length
  · have hlt' : (k : Int) < rows.length := by omega
    have hw := wrapS k _ hlt (by omega)
    have hok := ho rows[k] (List.getElem_mem hlt)
    have hgoal : X ++ (rows.take (k + 1)).flatMap fMb.en = X ++ (rows.take k).flatMap fMb.en ++ fMb.en rows[k] := by rw [flatMap_snoc hlt, List.append_assoc]
    have hpl2 : (X ++ (rows.take k).flatMap fMb.en ++ fMb.en rows[k]).length ≤ 1000000 := by rw [← hgoal]; have := flatMap_take_le fMb.en rows (k + 1); simp only [List.length_append] at hM ⊢; omega
    have he : rows[k]? = some rows[k] := List.getElem?_eq_getElem hlt
    generalize hQ : rows[k] = r at *
    generalize X ++ (rows.take k).flatMap fMb.en = Y at *
    obtain ⟨z0, z1, z2, z3, rfl, m0, m1, m2, m3⟩ := fMb_sh hok
    have hin : Y ++ fMb.en [I z0, I z1, I z2, I z3] = Y ++ catZ [z0, z1, z2, z3] := by rw [fMb_en]; simp only [catZ3, catZ4, foI_en, foB_en, flO, List.append_assoc]
    rw [hin] at hgoal hpl2
    clear hin
    have d0 := dNums Y [z0, z1, z2, z3] (by intro n hn; simp at hn; rcases hn with rfl | rfl | rfl | rfl <;> first | exact hL | exact flO_ok _ | (simp only [← foI_ok]; assumption)) (by simp) (by simp only [List.length_append] at hpl2 ⊢; omega)
    generalize Y ++ catZ [z0, z1, z2, z3] = Y1 at *
    try simp only [vOf2, ints, List.map_cons, List.map_nil] at *
    repeat' first | (refine hK _ ?_; clear hK) | (refine hK _ _ ?_; clear hK) | (clear hK; refine hK _ ?_; clear hK) | (clear hK; clear hK; refine hK _ ?_; clear hK) | (clear hK; clear hK; clear hK; refine hK _ ?_; clear hK) | (clear hK; clear hK; clear hK; clear hK; refine hK _ ?_; clear hK) | (refine wSeq fun K hK => ?_) | ((first | refine wReg ?_ | refine wDrwQ rfl (by kernel_rfl) ?_ | refine wDrwI ?_ | refine wDrw (by kernel_rfl) ?_); simp only [List.map_cons, List.map_nil, strip]) | ((first | refine wIs fun K hK => ?_ | refine wOs fun K hK => ?_ | refine wQs fun K hK => ?_ | refine CallK_plain ?_ | refine CallQ_plain ?_ | refine CallR_plain ?_ | refine wCond ?_); simp [g0, gl, gn, gi, hlt, hlt', hw, he, hQ]) | (refine wIn ?_; refine And.intro (by kernel_rfl) ?_; try simp only [thenA_n]) | (first | refine wBlock ?_ | refine wScope ?_) | ((first | refine wRet ?_ | refine wExit ?_ | refine wSkip ?_); try simp) | ((first | refine wLabel ?_ | refine wOn ?_ | refine wQn ?_); try simp only [thenA_n]) | (refine CallE.pure (d0) rfl ?_) | (refine CallE.lent (d0) rfl ?_) | (refine CallF.pure (d0) rfl ?_) | (refine CallF.lent (d0) rfl ?_) | (refine CallE.own (d0) ?_) | (refine CallH.pure (d0) rfl ?_) | (refine CallH.lent (d0) rfl ?_) | (refine CallH.own (d0) ?_)
    refine hL2 _ (N - 1) (by omega) ⟨k + 1, by omega, ?_⟩
    rw [hgoal]
    simp [g0, gl, gn, gi, hw]
  · have hlt' : ¬ (k : Int) < rows.length := by omega
    rw [List.take_of_length_le (by omega)] at g0
    repeat' first | (refine hK _ ?_; clear hK) | (refine hK _ _ ?_; clear hK) | (clear hK; refine hK _ ?_; clear hK) | (clear hK; clear hK; refine hK _ ?_; clear hK) | (clear hK; clear hK; clear hK; refine hK _ ?_; clear hK) | (clear hK; clear hK; clear hK; clear hK; refine hK _ ?_; clear hK) | (refine wSeq fun K hK => ?_) | ((first | refine wReg ?_ | refine wDrwQ rfl (by kernel_rfl) ?_ | refine wDrwI ?_ | refine wDrw (by kernel_rfl) ?_); simp only [List.map_cons, List.map_nil, strip]) | ((first | refine wIs fun K hK => ?_ | refine wOs fun K hK => ?_ | refine wQs fun K hK => ?_ | refine CallK_plain ?_ | refine CallQ_plain ?_ | refine CallR_plain ?_ | refine wCond ?_); simp [g0, gl, gn, gi, hlt, hlt']) | (refine wIn ?_; refine And.intro (by kernel_rfl) ?_; try simp only [thenA_n]) | (first | refine wBlock ?_ | refine wScope ?_) | ((first | refine wRet ?_ | refine wExit ?_ | refine wSkip ?_); try simp) | ((first | refine wLabel ?_ | refine wOn ?_ | refine wQn ?_); try simp only [thenA_n])
    all_goals apply hr
    all_goals simp [Try.f61, g0]
set_option maxHeartbeats 2000000 in
theorem dCf (b : List UInt8) (cs : List PV) (hk : fCf.ok cs) (h : (b ++ fCf.en cs).length ≤ 1000000) : ACon Try.prog 58 [.p (.sl 1 (by8 b)), vOf cs] (.p (.sl 1 (by8 (b ++ fCf.en cs)))) := by
  obtain ⟨x0, x1, x2, x3, rfl, k0, k1, k2⟩ := fCf_sh hk
  have hres : b ++ fCf.en [I x0, I x1, I x2, .sl 4 x3] = b ++ fZx.en [I x0, I x1] ++ foI.en [I x2] ++ (fl 4 fMb).en [.sl 4 x3] := by rw [fCf_en]; simp only [catZ3, catZ4, List.append_assoc]
  rw [hres] at h ⊢
  clear hres
  have c0 := dZx b _ k0 (by simp only [List.length_append] at h ⊢; omega)
  have c1 := dInt (b ++ fZx.en [I x0, I x1]) _ k1 (by simp only [List.length_append] at h ⊢; omega)
  have c2 := dlMb (b ++ fZx.en [I x0, I x1] ++ foI.en [I x2]) _ k2 (by simp only [List.length_append] at h ⊢; omega)
  generalize b ++ fZx.en [I x0, I x1] ++ foI.en [I x2] ++ (fl 4 fMb).en [.sl 4 x3] = y3 at *
  generalize b ++ fZx.en [I x0, I x1] ++ foI.en [I x2] = y2 at *
  generalize b ++ fZx.en [I x0, I x1] = y1 at *
  simp only [vOf2, ints, List.map_cons, List.map_nil] at *
  refine wBody Try.tab Try.mixed Try.func58 rfl rfl Try.ntmps58 (by simp) (by simp) fun Q hr hn => ?_
  repeat' first | (refine hK _ ?_; clear hK) | (refine hK _ _ ?_; clear hK) | (clear hK; refine hK _ ?_; clear hK) | (clear hK; clear hK; refine hK _ ?_; clear hK) | (clear hK; clear hK; clear hK; refine hK _ ?_; clear hK) | (clear hK; clear hK; clear hK; clear hK; refine hK _ ?_; clear hK) | (refine wSeq fun K hK => ?_) | ((first | refine wReg ?_ | refine wDrwQ rfl (by kernel_rfl) ?_ | refine wDrwI ?_ | refine wDrw (by kernel_rfl) ?_); simp only [List.map_cons, List.map_nil, strip]) | ((first | refine wIs fun K hK => ?_ | refine wOs fun K hK => ?_ | refine wQs fun K hK => ?_ | refine CallK_plain ?_ | refine CallQ_plain ?_ | refine CallR_plain ?_ | refine wCond ?_); simp) | (refine wIn ?_; refine And.intro (by kernel_rfl) ?_; try simp only [thenA_n]) | (first | refine wBlock ?_ | refine wScope ?_) | ((first | refine wRet ?_ | refine wExit ?_ | refine wSkip ?_); try simp) | ((first | refine wLabel ?_ | refine wOn ?_ | refine wQn ?_); try simp only [thenA_n]) | (refine CallE.pure (c0) rfl ?_) | (refine CallE.lent (c0) rfl ?_) | (refine CallF.pure (c0) rfl ?_) | (refine CallF.lent (c0) rfl ?_) | (refine CallE.own (c0) ?_) | (refine CallH.pure (c0) rfl ?_) | (refine CallH.lent (c0) rfl ?_) | (refine CallH.own (c0) ?_) | (refine CallE.pure (c1) rfl ?_) | (refine CallE.lent (c1) rfl ?_) | (refine CallF.pure (c1) rfl ?_) | (refine CallF.lent (c1) rfl ?_) | (refine CallE.own (c1) ?_) | (refine CallH.pure (c1) rfl ?_) | (refine CallH.lent (c1) rfl ?_) | (refine CallH.own (c1) ?_) | (refine CallE.pure (c2) rfl ?_) | (refine CallE.lent (c2) rfl ?_) | (refine CallF.pure (c2) rfl ?_) | (refine CallF.lent (c2) rfl ?_) | (refine CallE.own (c2) ?_) | (refine CallH.pure (c2) rfl ?_) | (refine CallH.lent (c2) rfl ?_) | (refine CallH.own (c2) ?_)
  all_goals apply hr
  all_goals simp [Try.f58]
set_option maxHeartbeats 2000000 in
theorem dNd (b : List UInt8) (cs : List PV) (hk : fNd.ok cs) (h : (b ++ fNd.en cs).length ≤ 1000000) : ACon Try.prog 57 [.p (.sl 1 (by8 b)), vOf cs] (.p (.sl 1 (by8 (b ++ fNd.en cs)))) := by
  obtain ⟨x0, x1, x2, x3, x4, rfl, k0, k1, k2, k3, k4⟩ := fNd_sh hk
  have hres : b ++ fNd.en [SB x0, SB x1, I x2, I x3, I x4] = b ++ foS.en [SB x0] ++ foS.en [SB x1] ++ catZ [x2, x3, x4] := by rw [fNd_en]; simp only [catZ3, catZ4, List.append_assoc]
  rw [hres] at h ⊢
  clear hres
  have c0 := dText b _ k0 (by simp only [List.length_append] at h ⊢; omega)
  have c1 := dText (b ++ foS.en [SB x0]) _ k1 (by simp only [List.length_append] at h ⊢; omega)
  have c2 := dNums (b ++ foS.en [SB x0] ++ foS.en [SB x1]) [x2, x3, x4] (by intro n hn; simp at hn; rcases hn with rfl | rfl | rfl <;> first | exact hL | exact flO_ok _ | (simp only [← foI_ok]; assumption)) (by simp) (by simp only [List.length_append] at h ⊢; omega)
  generalize b ++ foS.en [SB x0] ++ foS.en [SB x1] ++ catZ [x2, x3, x4] = y3 at *
  generalize b ++ foS.en [SB x0] ++ foS.en [SB x1] = y2 at *
  generalize b ++ foS.en [SB x0] = y1 at *
  simp only [vOf2, ints, List.map_cons, List.map_nil] at *
  refine wBody Try.tab Try.mixed Try.func57 rfl rfl Try.ntmps57 (by simp) (by simp) fun Q hr hn => ?_
  repeat' first | (refine hK _ ?_; clear hK) | (refine hK _ _ ?_; clear hK) | (clear hK; refine hK _ ?_; clear hK) | (clear hK; clear hK; refine hK _ ?_; clear hK) | (clear hK; clear hK; clear hK; refine hK _ ?_; clear hK) | (clear hK; clear hK; clear hK; clear hK; refine hK _ ?_; clear hK) | (refine wSeq fun K hK => ?_) | ((first | refine wReg ?_ | refine wDrwQ rfl (by kernel_rfl) ?_ | refine wDrwI ?_ | refine wDrw (by kernel_rfl) ?_); simp only [List.map_cons, List.map_nil, strip]) | ((first | refine wIs fun K hK => ?_ | refine wOs fun K hK => ?_ | refine wQs fun K hK => ?_ | refine CallK_plain ?_ | refine CallQ_plain ?_ | refine CallR_plain ?_ | refine wCond ?_); simp) | (refine wIn ?_; refine And.intro (by kernel_rfl) ?_; try simp only [thenA_n]) | (first | refine wBlock ?_ | refine wScope ?_) | ((first | refine wRet ?_ | refine wExit ?_ | refine wSkip ?_); try simp) | ((first | refine wLabel ?_ | refine wOn ?_ | refine wQn ?_); try simp only [thenA_n]) | (refine CallE.pure (c0) rfl ?_) | (refine CallE.lent (c0) rfl ?_) | (refine CallF.pure (c0) rfl ?_) | (refine CallF.lent (c0) rfl ?_) | (refine CallE.own (c0) ?_) | (refine CallH.pure (c0) rfl ?_) | (refine CallH.lent (c0) rfl ?_) | (refine CallH.own (c0) ?_) | (refine CallE.pure (c1) rfl ?_) | (refine CallE.lent (c1) rfl ?_) | (refine CallF.pure (c1) rfl ?_) | (refine CallF.lent (c1) rfl ?_) | (refine CallE.own (c1) ?_) | (refine CallH.pure (c1) rfl ?_) | (refine CallH.lent (c1) rfl ?_) | (refine CallH.own (c1) ?_) | (refine CallE.pure (c2) rfl ?_) | (refine CallE.lent (c2) rfl ?_) | (refine CallF.pure (c2) rfl ?_) | (refine CallF.lent (c2) rfl ?_) | (refine CallE.own (c2) ?_) | (refine CallH.pure (c2) rfl ?_) | (refine CallH.lent (c2) rfl ?_) | (refine CallH.own (c2) ?_)
  all_goals apply hr
  all_goals simp [Try.f57]
/- Records, the document's: transactions. -/
set_option maxHeartbeats 4000000 in
theorem dTx (b : List UInt8) (cs : List PV) (hk : fTx.ok cs) (h : (b ++ fTx.en cs).length ≤ 1000000) : ACon Try.prog 44 [.p (.sl 1 (by8 b)), vOf cs] (.p (.sl 1 (by8 (b ++ fTx.en cs)))) := by
  obtain ⟨x0, x1, x2, x3, x4, x5, x6, x7, rfl, k0, k1, k2, k3, k4, k5, k6⟩ := fTx_sh hk
  obtain ⟨hl, ho⟩ := fl_ok k6
  have hL : okI (x7.length : Int) := ⟨by omega, by omega⟩
  have hres : b ++ fTx.en [I x0, I x1, I x2, I x3, I x4, I x5, SB x6, .sl 11 x7] = b ++ fZx.en [I x0, I x1] ++ catZ [x2, x3, x4, x5] ++ foS.en [SB x6] ++ enc (zz (x7.length : Int)) ++ x7.flatMap fPt.en := by simp only [fTx_en, fl_en, fVt_en, fPl_en, catZ2, catZ3, catZ4, catZ6, foI_en, List.append_assoc]
  rw [hres] at h ⊢
  clear hres
  have c0 := dZx b _ k0 (by simp only [List.length_append] at h ⊢; omega)
  have c1 := dNums (b ++ fZx.en [I x0, I x1]) [x2, x3, x4, x5] (by intro n hn; simp at hn; rcases hn with rfl | rfl | rfl | rfl <;> first | exact hL | exact flO_ok _ | (simp only [← foI_ok]; assumption)) (by simp) (by simp only [List.length_append] at h ⊢; omega)
  have c2 := dText (b ++ fZx.en [I x0, I x1] ++ catZ [x2, x3, x4, x5]) _ k5 (by simp only [List.length_append] at h ⊢; omega)
  have c3 := dLen (b ++ fZx.en [I x0, I x1] ++ catZ [x2, x3, x4, x5] ++ foS.en [SB x6]) _ hL (by simp only [List.length_append] at h ⊢; omega)
  have hM : (b ++ fZx.en [I x0, I x1] ++ catZ [x2, x3, x4, x5] ++ foS.en [SB x6] ++ enc (zz (x7.length : Int)) ++ x7.flatMap fPt.en).length ≤ 1000000 := by simp only [List.length_append] at h ⊢; omega
  generalize hX : b ++ fZx.en [I x0, I x1] ++ catZ [x2, x3, x4, x5] ++ foS.en [SB x6] ++ enc (zz (x7.length : Int)) = X at *
  generalize b ++ fZx.en [I x0, I x1] ++ catZ [x2, x3, x4, x5] ++ foS.en [SB x6] = w3 at *
  generalize b ++ fZx.en [I x0, I x1] ++ catZ [x2, x3, x4, x5] = w2 at *
  generalize b ++ fZx.en [I x0, I x1] = w1 at *
  clear hX
  have hl' : x7.length < 9223372036854775808 := by omega
  simp only [vOf2]
  try simp only [ints, List.map_cons, List.map_nil] at *
  refine wBody Try.tab Try.mixed Try.func44 rfl rfl Try.ntmps44 (by simp) (by simp) fun Q hr hn => ?_
  repeat' first | (refine hK _ ?_; clear hK) | (refine hK _ _ ?_; clear hK) | (clear hK; refine hK _ ?_; clear hK) | (clear hK; clear hK; refine hK _ ?_; clear hK) | (clear hK; clear hK; clear hK; refine hK _ ?_; clear hK) | (clear hK; clear hK; clear hK; clear hK; refine hK _ ?_; clear hK) | (refine wSeq fun K hK => ?_) | ((first | refine wReg ?_ | refine wDrwQ rfl (by kernel_rfl) ?_ | refine wDrwI ?_ | refine wDrw (by kernel_rfl) ?_); simp only [List.map_cons, List.map_nil, strip]) | ((first | refine wIs fun K hK => ?_ | refine wOs fun K hK => ?_ | refine wQs fun K hK => ?_ | refine CallK_plain ?_ | refine CallQ_plain ?_ | refine CallR_plain ?_ | refine wCond ?_); simp [hl']) | (refine wIn ?_; refine And.intro (by kernel_rfl) ?_; try simp only [thenA_n]) | (first | refine wBlock ?_ | refine wScope ?_) | ((first | refine wRet ?_ | refine wExit ?_ | refine wSkip ?_); try simp) | ((first | refine wLabel ?_ | refine wOn ?_ | refine wQn ?_); try simp only [thenA_n]) | (refine CallE.pure (c0) rfl ?_) | (refine CallE.lent (c0) rfl ?_) | (refine CallF.pure (c0) rfl ?_) | (refine CallF.lent (c0) rfl ?_) | (refine CallE.own (c0) ?_) | (refine CallH.pure (c0) rfl ?_) | (refine CallH.lent (c0) rfl ?_) | (refine CallH.own (c0) ?_) | (refine CallE.pure (c1) rfl ?_) | (refine CallE.lent (c1) rfl ?_) | (refine CallF.pure (c1) rfl ?_) | (refine CallF.lent (c1) rfl ?_) | (refine CallE.own (c1) ?_) | (refine CallH.pure (c1) rfl ?_) | (refine CallH.lent (c1) rfl ?_) | (refine CallH.own (c1) ?_) | (refine CallE.pure (c2) rfl ?_) | (refine CallE.lent (c2) rfl ?_) | (refine CallF.pure (c2) rfl ?_) | (refine CallF.lent (c2) rfl ?_) | (refine CallE.own (c2) ?_) | (refine CallH.pure (c2) rfl ?_) | (refine CallH.lent (c2) rfl ?_) | (refine CallH.own (c2) ?_) | (refine CallE.pure (c3) rfl ?_) | (refine CallE.lent (c3) rfl ?_) | (refine CallF.pure (c3) rfl ?_) | (refine CallF.lent (c3) rfl ?_) | (refine CallE.own (c3) ?_) | (refine CallH.pure (c3) rfl ?_) | (refine CallH.lent (c3) rfl ?_) | (refine CallH.own (c3) ?_)
  refine wLoop (fun N st => ∃ k, k + N = x7.length ∧ st.s 0 = .p (.sl 1 (by8 (X ++ (x7.take k).flatMap fPt.en))) ∧ st.s 30 = .p (.sl 11 x7) ∧ st.s 31 = .p (I x7.length) ∧ st.s 32 = .p (I k)) x7.length ⟨0, by simp⟩ fun K N st hL2 ⟨k, hk, g0, gl, gn, gi⟩ => ?_
  by_cases hlt : k < x7.length
  · have hlt' : (k : Int) < x7.length := by omega
    have hw := wrapS k _ hlt (by omega)
    have hok := ho x7[k] (List.getElem_mem hlt)
    have hgoal : X ++ (x7.take (k + 1)).flatMap fPt.en = X ++ (x7.take k).flatMap fPt.en ++ fPt.en x7[k] := by rw [flatMap_snoc hlt, List.append_assoc]
    have hpl2 : (X ++ (x7.take k).flatMap fPt.en ++ fPt.en x7[k]).length ≤ 1000000 := by rw [← hgoal]; have := flatMap_take_le fPt.en x7 (k + 1); simp only [List.length_append] at hM ⊢; omega
    have he : x7[k]? = some x7[k] := List.getElem?_eq_getElem hlt
    generalize hQ : x7[k] = r at *
    generalize X ++ (x7.take k).flatMap fPt.en = Y at *
    obtain ⟨z0, z1, z2, z3, z4, z5, z6, z7, z8, z9, z10, rfl, m0, m1, m2, m3⟩ := fPt_sh hok
    have hin : Y ++ fPt.en [I z0, SB z1, SB z2, I z3, I z4, I z5, I z6, I z7, I z8, I z9, .sl 4 z10] = Y ++ foI.en [I z0] ++ fNd.en [SB z1, SB z2, I z3, I z4, I z5] ++ foI.en [I z6] ++ fCf.en [I z7, I z8, I z9, .sl 4 z10] := by rw [fPt_en]; simp only [catZ3, catZ4, foI_en, foB_en, flO, List.append_assoc]
    rw [hin] at hgoal hpl2
    clear hin
    have d0 := dInt Y _ m0 (by simp only [List.length_append] at hpl2 ⊢; omega)
    have d1 := dNd (Y ++ foI.en [I z0]) _ m1 (by simp only [List.length_append] at hpl2 ⊢; omega)
    have d2 := dInt (Y ++ foI.en [I z0] ++ fNd.en [SB z1, SB z2, I z3, I z4, I z5]) _ m2 (by simp only [List.length_append] at hpl2 ⊢; omega)
    have d3 := dCf (Y ++ foI.en [I z0] ++ fNd.en [SB z1, SB z2, I z3, I z4, I z5] ++ foI.en [I z6]) _ m3 (by simp only [List.length_append] at hpl2 ⊢; omega)
    generalize Y ++ foI.en [I z0] ++ fNd.en [SB z1, SB z2, I z3, I z4, I z5] ++ foI.en [I z6] ++ fCf.en [I z7, I z8, I z9, .sl 4 z10] = Y4 at *
    generalize Y ++ foI.en [I z0] ++ fNd.en [SB z1, SB z2, I z3, I z4, I z5] ++ foI.en [I z6] = Y3 at *
    generalize Y ++ foI.en [I z0] ++ fNd.en [SB z1, SB z2, I z3, I z4, I z5] = Y2 at *
    generalize Y ++ foI.en [I z0] = Y1 at *
    try simp only [vOf2, ints, List.map_cons, List.map_nil] at *
    repeat' first | (refine hK _ ?_; clear hK) | (refine hK _ _ ?_; clear hK) | (clear hK; refine hK _ ?_; clear hK) | (clear hK; clear hK; refine hK _ ?_; clear hK) | (clear hK; clear hK; clear hK; refine hK _ ?_; clear hK) | (clear hK; clear hK; clear hK; clear hK; refine hK _ ?_; clear hK) | (refine wSeq fun K hK => ?_) | ((first | refine wReg ?_ | refine wDrwQ rfl (by kernel_rfl) ?_ | refine wDrwI ?_ | refine wDrw (by kernel_rfl) ?_); simp only [List.map_cons, List.map_nil, strip]) | ((first | refine wIs fun K hK => ?_ | refine wOs fun K hK => ?_ | refine wQs fun K hK => ?_ | refine CallK_plain ?_ | refine CallQ_plain ?_ | refine CallR_plain ?_ | refine wCond ?_); simp [g0, gl, gn, gi, hlt, hlt', hw, he, hQ]) | (refine wIn ?_; refine And.intro (by kernel_rfl) ?_; try simp only [thenA_n]) | (first | refine wBlock ?_ | refine wScope ?_) | ((first | refine wRet ?_ | refine wExit ?_ | refine wSkip ?_); try simp) | ((first | refine wLabel ?_ | refine wOn ?_ | refine wQn ?_); try simp only [thenA_n]) | (refine CallE.pure (d0) rfl ?_) | (refine CallE.lent (d0) rfl ?_) | (refine CallF.pure (d0) rfl ?_) | (refine CallF.lent (d0) rfl ?_) | (refine CallE.own (d0) ?_) | (refine CallH.pure (d0) rfl ?_) | (refine CallH.lent (d0) rfl ?_) | (refine CallH.own (d0) ?_) | (refine CallE.pure (d1) rfl ?_) | (refine CallE.lent (d1) rfl ?_) | (refine CallF.pure (d1) rfl ?_) | (refine CallF.lent (d1) rfl ?_) | (refine CallE.own (d1) ?_) | (refine CallH.pure (d1) rfl ?_) | (refine CallH.lent (d1) rfl ?_) | (refine CallH.own (d1) ?_) | (refine CallE.pure (d2) rfl ?_) | (refine CallE.lent (d2) rfl ?_) | (refine CallF.pure (d2) rfl ?_) | (refine CallF.lent (d2) rfl ?_) | (refine CallE.own (d2) ?_) | (refine CallH.pure (d2) rfl ?_) | (refine CallH.lent (d2) rfl ?_) | (refine CallH.own (d2) ?_) | (refine CallE.pure (d3) rfl ?_) | (refine CallE.lent (d3) rfl ?_) | (refine CallF.pure (d3) rfl ?_) | (refine CallF.lent (d3) rfl ?_) | (refine CallE.own (d3) ?_) | (refine CallH.pure (d3) rfl ?_) | (refine CallH.lent (d3) rfl ?_) | (refine CallH.own (d3) ?_)
    refine hL2 _ (N - 1) (by omega) ⟨k + 1, by omega, ?_⟩
    rw [hgoal]
    simp [g0, gl, gn, gi, hw]
  · have hlt' : ¬ (k : Int) < x7.length := by omega
    rw [List.take_of_length_le (by omega)] at g0
    repeat' first | (refine hK _ ?_; clear hK) | (refine hK _ _ ?_; clear hK) | (clear hK; refine hK _ ?_; clear hK) | (clear hK; clear hK; refine hK _ ?_; clear hK) | (clear hK; clear hK; clear hK; refine hK _ ?_; clear hK) | (clear hK; clear hK; clear hK; clear hK; refine hK _ ?_; clear hK) | (refine wSeq fun K hK => ?_) | ((first | refine wReg ?_ | refine wDrwQ rfl (by kernel_rfl) ?_ | refine wDrwI ?_ | refine wDrw (by kernel_rfl) ?_); simp only [List.map_cons, List.map_nil, strip]) | ((first | refine wIs fun K hK => ?_ | refine wOs fun K hK => ?_ | refine wQs fun K hK => ?_ | refine CallK_plain ?_ | refine CallQ_plain ?_ | refine CallR_plain ?_ | refine wCond ?_); simp [g0, gl, gn, gi, hlt, hlt']) | (refine wIn ?_; refine And.intro (by kernel_rfl) ?_; try simp only [thenA_n]) | (first | refine wBlock ?_ | refine wScope ?_) | ((first | refine wRet ?_ | refine wExit ?_ | refine wSkip ?_); try simp) | ((first | refine wLabel ?_ | refine wOn ?_ | refine wQn ?_); try simp only [thenA_n])
    all_goals apply hr
    all_goals simp [Try.f44, g0]
set_option maxHeartbeats 4000000 in
theorem dlTx (b : List UInt8) (rows : List (List PV)) (hk : (fl 8 fTx).ok [.sl 8 rows]) (h : (b ++ (fl 8 fTx).en [.sl 8 rows]).length ≤ 1000000) : ACon Try.prog 45 [.p (.sl 1 (by8 b)), .p (.sl 8 rows)] (.p (.sl 1 (by8 (b ++ (fl 8 fTx).en [.sl 8 rows])))) := by
  obtain ⟨hl, ho⟩ := fl_ok hk
  have hL : okI (rows.length : Int) := ⟨by omega, by omega⟩
  have hres : b ++ (fl 8 fTx).en [.sl 8 rows] = b ++ enc (zz (rows.length : Int)) ++ rows.flatMap fTx.en := by simp only [fl_en, catZ2, catZ3, catZ4, catZ6, foI_en, List.append_assoc]
  rw [hres] at h ⊢
  clear hres
  have c0 := dLen b _ hL (by simp only [List.length_append] at h ⊢; omega)
  have hM : (b ++ enc (zz (rows.length : Int)) ++ rows.flatMap fTx.en).length ≤ 1000000 := by simp only [List.length_append] at h ⊢; omega
  generalize hX : b ++ enc (zz (rows.length : Int)) = X at *
  clear hX
  have hl' : rows.length < 9223372036854775808 := by omega
  try simp only [ints, List.map_cons, List.map_nil] at *
  refine wBody Try.tab Try.mixed Try.func45 rfl rfl Try.ntmps45 (by simp) (by simp) fun Q hr hn => ?_
  repeat' first | (refine hK _ ?_; clear hK) | (refine hK _ _ ?_; clear hK) | (clear hK; refine hK _ ?_; clear hK) | (clear hK; clear hK; refine hK _ ?_; clear hK) | (clear hK; clear hK; clear hK; refine hK _ ?_; clear hK) | (clear hK; clear hK; clear hK; clear hK; refine hK _ ?_; clear hK) | (refine wSeq fun K hK => ?_) | ((first | refine wReg ?_ | refine wDrwQ rfl (by kernel_rfl) ?_ | refine wDrwI ?_ | refine wDrw (by kernel_rfl) ?_); simp only [List.map_cons, List.map_nil, strip]) | ((first | refine wIs fun K hK => ?_ | refine wOs fun K hK => ?_ | refine wQs fun K hK => ?_ | refine CallK_plain ?_ | refine CallQ_plain ?_ | refine CallR_plain ?_ | refine wCond ?_); simp [hl']) | (refine wIn ?_; refine And.intro (by kernel_rfl) ?_; try simp only [thenA_n]) | (first | refine wBlock ?_ | refine wScope ?_) | ((first | refine wRet ?_ | refine wExit ?_ | refine wSkip ?_); try simp) | ((first | refine wLabel ?_ | refine wOn ?_ | refine wQn ?_); try simp only [thenA_n]) | (refine CallE.pure (c0) rfl ?_) | (refine CallE.lent (c0) rfl ?_) | (refine CallF.pure (c0) rfl ?_) | (refine CallF.lent (c0) rfl ?_) | (refine CallE.own (c0) ?_) | (refine CallH.pure (c0) rfl ?_) | (refine CallH.lent (c0) rfl ?_) | (refine CallH.own (c0) ?_)
  refine wLoop (fun N st => ∃ k, k + N = rows.length ∧ st.s 0 = .p (.sl 1 (by8 (X ++ (rows.take k).flatMap fTx.en))) ∧ st.s 11 = .p (.sl 8 rows) ∧ st.s 12 = .p (I rows.length) ∧ st.s 13 = .p (I k)) rows.length ⟨0, by simp⟩ fun K N st hL2 ⟨k, hk, g0, gl, gn, gi⟩ => ?_
  by_cases hlt : k < rows.length
  · have hlt' : (k : Int) < rows.length := by omega
    have hw := wrapS k _ hlt (by omega)
    have hok := ho rows[k] (List.getElem_mem hlt)
    have hgoal : X ++ (rows.take (k + 1)).flatMap fTx.en = X ++ (rows.take k).flatMap fTx.en ++ fTx.en rows[k] := by rw [flatMap_snoc hlt, List.append_assoc]
    have hpl2 : (X ++ (rows.take k).flatMap fTx.en ++ fTx.en rows[k]).length ≤ 1000000 := by rw [← hgoal]; have := flatMap_take_le fTx.en rows (k + 1); simp only [List.length_append] at hM ⊢; omega
    have he : rows[k]? = some rows[k] := List.getElem?_eq_getElem hlt
    generalize hQ : rows[k] = r at *
    generalize X ++ (rows.take k).flatMap fTx.en = Y at *
    have d0 := dTx Y _ hok hpl2
    obtain ⟨z0, z1, z2, z3, z4, z5, z6, z7, rfl, -⟩ := fTx_sh hok
    generalize Y ++ fTx.en [I z0, I z1, I z2, I z3, I z4, I z5, SB z6, .sl 11 z7] = Y1 at *
    simp only [vOf2] at d0
    repeat' first | (refine hK _ ?_; clear hK) | (refine hK _ _ ?_; clear hK) | (clear hK; refine hK _ ?_; clear hK) | (clear hK; clear hK; refine hK _ ?_; clear hK) | (clear hK; clear hK; clear hK; refine hK _ ?_; clear hK) | (clear hK; clear hK; clear hK; clear hK; refine hK _ ?_; clear hK) | (refine wSeq fun K hK => ?_) | ((first | refine wReg ?_ | refine wDrwQ rfl (by kernel_rfl) ?_ | refine wDrwI ?_ | refine wDrw (by kernel_rfl) ?_); simp only [List.map_cons, List.map_nil, strip]) | ((first | refine wIs fun K hK => ?_ | refine wOs fun K hK => ?_ | refine wQs fun K hK => ?_ | refine CallK_plain ?_ | refine CallQ_plain ?_ | refine CallR_plain ?_ | refine wCond ?_); simp [g0, gl, gn, gi, hlt, hlt', hw, he, hQ]) | (refine wIn ?_; refine And.intro (by kernel_rfl) ?_; try simp only [thenA_n]) | (first | refine wBlock ?_ | refine wScope ?_) | ((first | refine wRet ?_ | refine wExit ?_ | refine wSkip ?_); try simp) | ((first | refine wLabel ?_ | refine wOn ?_ | refine wQn ?_); try simp only [thenA_n]) | (refine CallE.pure (d0) rfl ?_) | (refine CallE.lent (d0) rfl ?_) | (refine CallF.pure (d0) rfl ?_) | (refine CallF.lent (d0) rfl ?_) | (refine CallE.own (d0) ?_) | (refine CallH.pure (d0) rfl ?_) | (refine CallH.lent (d0) rfl ?_) | (refine CallH.own (d0) ?_)
    refine hL2 _ (N - 1) (by omega) ⟨k + 1, by omega, ?_⟩
    rw [hgoal]
    simp [g0, gl, gn, gi, hw]
  · have hlt' : ¬ (k : Int) < rows.length := by omega
    rw [List.take_of_length_le (by omega)] at g0
    repeat' first | (refine hK _ ?_; clear hK) | (refine hK _ _ ?_; clear hK) | (clear hK; refine hK _ ?_; clear hK) | (clear hK; clear hK; refine hK _ ?_; clear hK) | (clear hK; clear hK; clear hK; refine hK _ ?_; clear hK) | (clear hK; clear hK; clear hK; clear hK; refine hK _ ?_; clear hK) | (refine wSeq fun K hK => ?_) | ((first | refine wReg ?_ | refine wDrwQ rfl (by kernel_rfl) ?_ | refine wDrwI ?_ | refine wDrw (by kernel_rfl) ?_); simp only [List.map_cons, List.map_nil, strip]) | ((first | refine wIs fun K hK => ?_ | refine wOs fun K hK => ?_ | refine wQs fun K hK => ?_ | refine CallK_plain ?_ | refine CallQ_plain ?_ | refine CallR_plain ?_ | refine wCond ?_); simp [g0, gl, gn, gi, hlt, hlt']) | (refine wIn ?_; refine And.intro (by kernel_rfl) ?_; try simp only [thenA_n]) | (first | refine wBlock ?_ | refine wScope ?_) | ((first | refine wRet ?_ | refine wExit ?_ | refine wSkip ?_); try simp) | ((first | refine wLabel ?_ | refine wOn ?_ | refine wQn ?_); try simp only [thenA_n])
    all_goals apply hr
    all_goals simp [Try.f45, g0]
end Go.Proofs.Ytechjohebkcjiaa
