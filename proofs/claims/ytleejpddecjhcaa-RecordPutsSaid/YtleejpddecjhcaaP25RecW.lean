/- Texts that the proof needs: RG4 RG4a RG4b RGE RGI RG3d RGBa. -/
import Derived.Test.YtleejpddecjhcaaP20RecW
import Derived.Test.YtleejpddecjhcaaP24RecW
import Derived.Test.YtleejpddecjhcaaP23RecW
/- Records, the document's: numbers, texts, places, nodes, members, configs. -/
namespace Go.Proofs.Ytleejpddecjhcaa
set_option linter.unusedSimpArgs false
set_option linter.unusedVariables false
set_option maxRecDepth 8000
open Go Go.Av
attribute [local simp] Try.T1 Try.T2 Try.T3 Try.T4 Try.T5 Try.T9 Try.T12 Try.T15 Try.T16 Try.T17 Try.T21 Try.T22 Try.T24 Try.T25 Try.T26 Try.T28 Try.T29 Try.T30 Try.T31 Try.T33 Try.T35 Try.T36 Try.T37 Try.T38 Try.T39 Try.T40 Try.T41 Try.T42 Try.T43 Try.T44 Try.T45 Try.T47 Try.T48 Try.T50 Try.T51 Try.T53 Try.T55 Try.T57 Try.T58 Try.T59 Try.T60 Try.T61 Try.T63 Try.T64 Try.T66 Try.T67 Try.T69 Try.T70 Try.T71 Try.T73 Try.T75 Try.T76 Try.T78 Try.T80 Try.T82 Try.T83 Try.T84 Try.T85 Try.T86 Try.T87 Try.T88 Try.T89 Try.T90 Try.T91 Try.T92 Try.T93 Try.T94 Try.T95 Try.T96 Try.T97 Try.T98 Try.T99 Try.T100 Try.T101 Try.T102 Try.T103 Try.T104 Try.T105 Try.T106 Try.T107 Try.T108 Try.T109 Try.T111 Try.T112 Try.T113 Try.T114 Try.T115 Try.T116 Try.T117 Try.T119 Try.T120 Try.T121 Try.T122 Try.T123 Try.T124 Try.T125 Try.T126 Try.T127 Try.T128 Try.T129 Try.T130 Try.T131 Try.T132 Try.T133 Try.T134 Try.T136 Try.T137 Try.T138 Try.T139 Try.T140 Try.T141 Try.T142 Try.T143 Try.T144 Try.T145 Try.T146 Try.T147 Try.T148 Try.T149 Try.T150 Try.T151 Try.T152 Try.T153 Try.T154 Try.T155 Try.T156 Try.T157 Try.T158 Try.T160 Try.T161 Try.T162 Try.T163 Try.T164 Try.T165 Try.T166 Try.T167 Try.T168 Try.T169 Try.T170 Try.T171 Try.T172 Try.T173 Try.T174 Try.T175 Try.T176 Try.T177 Try.T178 Try.T179 Try.T180 Try.T181 Try.T182 Try.T183 Try.T184 Try.T185 Try.T186 Try.T187 Try.T188 Try.T189 Try.T190 Try.T191 Try.T192 Try.T194 Try.T195 Try.T197 Try.T198 Try.T199 Try.T200 Try.T201 Try.T202 Try.T203 Try.T205 Try.T206 Try.T209 Try.T212 Try.T215 Try.T216
attribute [local irreducible] Go.Av.CallK Go.Av.CallE Go.Av.CallQ Go.Av.CallF Go.Av.CallR Go.Av.CallH Go.Av.Con
theorem catZ2 (a b : Int) : catZ [a, b] = foI.en [I a] ++ foI.en [I b] := by simp [catZ]
theorem catZ3 (a b c : Int) : catZ [a, b, c] = foI.en [I a] ++ (foI.en [I b] ++ foI.en [I c]) := by simp [catZ]
def flO (x : Bool) : Int := if x = true then 1 else 0
theorem flO_ok (x : Bool) : okI (flO x) := by cases x <;> exact ⟨by decide, by decide⟩
theorem catZ4 (a b c d : Int) : catZ [a, b, c, d] = foI.en [I a] ++ (foI.en [I b] ++ (foI.en [I c] ++ foI.en [I d])) := by simp [catZ]
theorem catZ6 (a b c d e f : Int) : catZ [a, b, c, d, e, f] = foI.en [I a] ++ (foI.en [I b] ++ (foI.en [I c] ++ (foI.en [I d] ++ (foI.en [I e] ++ foI.en [I f])))) := by simp [catZ]
abbrev DCon (g : FuncId) (b : List UInt8) (v : V) (r : List UInt8) : Prop := ACon Try.prog g [.p (.sl 1 (by8 b)), v] (.p (.sl 1 (by8 r)))
theorem dLen (b : List UInt8) (n : Nat) (ho : okI (n : Int)) (h : (b ++ enc (zz (n : Int))).length ≤ 1000000) : DCon 42 b (.p (I n)) (b ++ enc (zz (n : Int))) :=
  (putInt01_con b n ho (by rw [List.length_append] at h; omega)).toPure
theorem dInt (b : List UInt8) (n : Int) (ho : foI.ok [I n]) (h : (b ++ foI.en [I n]).length ≤ 1000000) : DCon 42 b (.p (I n)) (b ++ foI.en [I n]) :=
  (putInt01_con b n (foI_ok.1 ho) (by rw [List.length_append] at h; omega)).toPure
theorem dText (b s : List UInt8) (ho : foS.ok [SB s]) (h : (b ++ foS.en [SB s]).length ≤ 1000000) : DCon 43 b (.p (SB s)) (b ++ foS.en [SB s]) := by
  rw [foS_en] at h ⊢
  simp only [List.length_append] at h
  exact text12_con b s (by omega) (by omega)
theorem dNums (b : List UInt8) (l : List Int) (ho : ∀ n ∈ l, okI n) (hl : l.length ≤ 1000) (h : (b ++ catZ l).length ≤ 1000000) : DCon 41 b (.p (.sl 1 (ints l))) (b ++ catZ l) :=
  nums12_con b l ho (by omega) (by rw [List.length_append] at h; omega)
theorem dZx (b : List UInt8) (cs : List PV) (hk : fZx.ok cs) (h : (b ++ fZx.en cs).length ≤ 1000000) : DCon 19 b (vOf cs) (b ++ fZx.en cs) := by
  obtain ⟨e, n, rfl, k0, k1⟩ := fZx_sh hk
  rw [fZx_en, ← catZ2] at h ⊢
  exact zxid12_con b e n (foI_ok.1 k0) (foI_ok.1 k1) (by rw [List.length_append] at h; omega)
theorem rows_ints {rows : List (List PV)} (h : ∀ r ∈ rows, foI.ok r) : ∃ l, rows = ints l ∧ ∀ n ∈ l, okI n := by
  induction rows with
  | nil => exact ⟨[], rfl, by simp⟩
  | cons r rows ih =>
    obtain ⟨l, rfl, hl⟩ := ih fun x hx => h x (List.mem_cons_of_mem _ hx)
    obtain ⟨n, rfl, hn⟩ := h r List.mem_cons_self
    refine ⟨n :: l, rfl, fun m hm => ?_⟩
    rcases List.mem_cons.1 hm with rfl | hm
    · exact hn
    · exact hl m hm
theorem catZ_ge (l : List Int) : l.length ≤ (catZ l).length := by
  induction l with
  | nil => simp
  | cons n l ih =>
    have := enc_pos (zz n)
    show _ ≤ (enc (zz n) ++ catZ l).length
    rw [List.length_append, List.length_cons]; omega
theorem dlI (b : List UInt8) (rows : List (List PV)) (hk : (fl 1 foI).ok [.sl 1 rows]) (h : (b ++ (fl 1 foI).en [.sl 1 rows]).length ≤ 1000000) : DCon 47 b (.p (.sl 1 rows)) (b ++ (fl 1 foI).en [.sl 1 rows]) := by
  obtain ⟨hl, ho⟩ := fl_ok hk
  obtain ⟨l, rfl, hl2⟩ := rows_ints ho
  have he : (fl 1 foI).en [.sl 1 (ints l)] = catZ ((l.length : Int) :: l) := by
    rw [fl_en, ints_len]
    show _ = enc (zz (l.length : Int)) ++ catZ l
    congr 1
    have : ∀ l : List Int, (ints l).flatMap foI.en = catZ l := by
      intro l
      induction l with
      | nil => rfl
      | cons n l ih => show foI.en [I n] ++ (ints l).flatMap foI.en = enc (zz n) ++ catZ l; rw [ih]; rfl
    exact this l
  rw [he] at h ⊢
  have hg : l.length ≤ (catZ l).length := catZ_ge l
  have h2 : (catZ ((l.length : Int) :: l)).length = (enc (zz (l.length : Int))).length + (catZ l).length := by show (enc (zz (l.length : Int)) ++ catZ l).length = _; rw [List.length_append]
  rw [List.length_append, h2] at h
  exact ints12_con b l hl2 (by omega) (by omega)
set_option maxHeartbeats 4000000 in
theorem dlMb (b : List UInt8) (rows : List (List PV)) (hk : (fl 4 fMb).ok [.sl 4 rows]) (h : (b ++ (fl 4 fMb).en [.sl 4 rows]).length ≤ 1000000) : ACon Try.prog 50 [.p (.sl 1 (by8 b)), .p (.sl 4 rows)] (.p (.sl 1 (by8 (b ++ (fl 4 fMb).en [.sl 4 rows])))) := by
  obtain ⟨hl, ho⟩ := fl_ok hk
  have hL : okI (rows.length : Int) := ⟨by omega, by omega⟩
  have hres : b ++ (fl 4 fMb).en [.sl 4 rows] = b ++ enc (zz (rows.length : Int)) ++ rows.flatMap fMb.en := by simp only [fl_en, catZ2, catZ3, catZ4, catZ6, foI_en, List.append_assoc]
  rw [hres] at h ⊢
  clear hres
  have c0 := dLen b _ hL (by simp only [List.length_append] at h ⊢; omega)
  have hM : (b ++ enc (zz (rows.length : Int)) ++ rows.flatMap fMb.en).length ≤ 1000000 := by simp only [List.length_append] at h ⊢; omega
  generalize hX : b ++ enc (zz (rows.length : Int)) = X at *
  clear hX
  have hl' : rows.length < 9223372036854775808 := by omega
  try simp only [ints, List.map_cons, List.map_nil] at *
  refine wBody Try.tab Try.mixed Try.func50 rfl rfl Try.ntmps50 (by simp) (by simp) fun Q hr hn => ?_
  repeat' first | (refine hK _ ?_; clear hK) | (refine hK _ _ ?_; clear hK) | (clear hK; refine hK _ ?_; clear hK) | (clear hK; clear hK; refine hK _ ?_; clear hK) | (clear hK; clear hK; clear hK; refine hK _ ?_; clear hK) | (clear hK; clear hK; clear hK; clear hK; refine hK _ ?_; clear hK) | (refine wSeq fun K hK => ?_) | ((first | refine wReg ?_ | refine wDrwQ rfl (by kernel_rfl) ?_ | refine wDrwI ?_ | refine wDrw (by kernel_rfl) ?_); simp only [List.map_cons, List.map_nil, strip]) | ((first | refine wIs fun K hK => ?_ | refine wOs fun K hK => ?_ | refine wQs fun K hK => ?_ | refine CallK_plain ?_ | refine CallQ_plain ?_ | refine CallR_plain ?_ | refine wCond ?_); simp [hl']) | (refine wIn ?_; refine And.intro (by kernel_rfl) ?_; try simp only [thenA_n]) | (first | refine wBlock ?_ | refine wScope ?_) | ((first | refine wRet ?_ | refine wExit ?_ | refine wSkip ?_); try simp) | ((first | refine wLabel ?_ | refine wOn ?_ | refine wQn ?_); try simp only [thenA_n]) | (refine CallE.pure (c0) rfl ?_) | (refine CallE.lent (c0) rfl ?_) | (refine CallF.pure (c0) rfl ?_) | (refine CallF.lent (c0) rfl ?_) | (refine CallE.own (c0) ?_) | (refine CallH.pure (c0) rfl ?_) | (refine CallH.lent (c0) rfl ?_) | (refine CallH.own (c0) ?_)
  refine wLoop (fun N st => ∃ k, k + N = rows.length ∧ st.s 0 = .p (.sl 1 (by8 (X ++ (rows.take k).flatMap fMb.en))) ∧ st.s 11 = .p (.sl 4 rows) ∧ st.s 12 = .p (I rows.length) ∧ st.s 13 = .p (I k)) rows.length ⟨0, by simp⟩ fun K N st hL2 ⟨k, hk, g0, gl, gn, gi⟩ => ?_
  by_cases hlt : k < rows.length
  · have hlt' : (k : Int) < rows.length := by omega
    have hw := wrapS k _ hlt (by omega)
    have hok := ho rows[k] (List.getElem_mem hlt)
    have hgoal : X ++ (rows.take (k + 1)).flatMap fMb.en = X ++ (rows.take k).flatMap fMb.en ++ fMb.en rows[k] := by rw [flatMap_snoc hlt, List.append_assoc]
    have hpl2 : (X ++ (rows.take k).flatMap fMb.en ++ fMb.en rows[k]).length ≤ 1000000 := by rw [← hgoal]; have := flatMap_take_le fMb.en rows (k + 1); simp only [List.length_append] at hM ⊢; omega
    have he : rows[k]? = some rows[k] := List.getElem?_eq_getElem hlt
    generalize hQ : rows[k] = r at *
    generalize X ++ (rows.take k).flatMap fMb.en = Y at *
    obtain ⟨z0, z1, z2, z3, rfl, m0, m1, m2, m3⟩ := fMb_sh hok
    have hin : Y ++ fMb.en [I z0, I z1, I z2, I z3] = Y ++ catZ [z0, z1, z2, z3] := by rw [fMb_en]; simp only [catZ3, catZ4, foI_en, foB_en, flO, List.append_assoc]
    rw [hin] at hgoal hpl2
    clear hin
    have d0 := dNums Y [z0, z1, z2, z3] (by intro n hn; simp at hn; rcases hn with rfl | rfl | rfl | rfl <;> first | exact hL | exact flO_ok _ | (simp only [← foI_ok]; assumption)) (by simp) (by simp only [List.length_append] at hpl2 ⊢; omega)
    generalize Y ++ catZ [z0, z1, z2, z3] = Y1 at *
    try simp only [vOf2, ints, List.map_cons, List.map_nil] at *
    repeat' first | (refine hK _ ?_; clear hK) | (refine hK _ _ ?_; clear hK) | (clear hK; refine hK _ ?_; clear hK) | (clear hK; clear hK; refine hK _ ?_; clear hK) | (clear hK; clear hK; clear hK; refine hK _ ?_; clear hK) | (clear hK; clear hK; clear hK; clear hK; refine hK _ ?_; clear hK) | (refine wSeq fun K hK => ?_) | ((first | refine wReg ?_ | refine wDrwQ rfl (by kernel_rfl) ?_ | refine wDrwI ?_ | refine wDrw (by kernel_rfl) ?_); simp only [List.map_cons, List.map_nil, strip]) | ((first | refine wIs fun K hK => ?_ | refine wOs fun K hK => ?_ | refine wQs fun K hK => ?_ | refine CallK_plain ?_ | refine CallQ_plain ?_ | refine CallR_plain ?_ | refine wCond ?_); simp [g0, gl, gn, gi, hlt, hlt', hw, he, hQ]) | (refine wIn ?_; refine And.intro (by kernel_rfl) ?_; try simp only [thenA_n]) | (first | refine wBlock ?_ | refine wScope ?_) | ((first | refine wRet ?_ | refine wExit ?_ | refine wSkip ?_); try simp) | ((first | refine wLabel ?_ | refine wOn ?_ | refine wQn ?_); try simp only [thenA_n]) | (refine CallE.pure (d0) rfl ?_) | (refine CallE.lent (d0) rfl ?_) | (refine CallF.pure (d0) rfl ?_) | (refine CallF.lent (d0) rfl ?_) | (refine CallE.own (d0) ?_) | (refine CallH.pure (d0) rfl ?_) | (refine CallH.lent (d0) rfl ?_) | (refine CallH.own (d0) ?_)
    refine hL2 _ (N - 1) (by omega) ⟨k + 1, by omega, ?_⟩
    rw [hgoal]
    simp [g0, gl, gn, gi, hw]
  · have hlt' : ¬ (k : Int) < rows.length := by omega
    rw [List.take_of_length_le (by omega)] at g0
    repeat' first | (refine hK _ ?_; clear hK) | (refine hK _ _ ?_; clear hK) | (clear hK; refine hK _ ?_; clear hK) | (clear hK; clear hK; refine hK _ ?_; clear hK) | (clear hK; clear hK; clear hK; refine hK _ ?_; clear hK) | (clear hK; clear hK; clear hK; clear hK; refine hK _ ?_; clear hK) | (refine wSeq fun K hK => ?_) | ((first | refine wReg ?_ | refine wDrwQ rfl (by kernel_rfl) ?_ | refine wDrwI ?_ | refine wDrw (by kernel_rfl) ?_); simp only [List.map_cons, List.map_nil, strip]) | ((first | refine wIs fun K hK => ?_ | refine wOs fun K hK => ?_ | refine wQs fun K hK => ?_ | refine CallK_plain ?_ | refine CallQ_plain ?_ | refine CallR_plain ?_ | refine wCond ?_); simp [g0, gl, gn, gi, hlt, hlt']) | (refine wIn ?_; refine And.intro (by kernel_rfl) ?_; try simp only [thenA_n]) | (first | refine wBlock ?_ | refine wScope ?_) | ((first | refine wRet ?_ | refine wExit ?_ | refine wSkip ?_); try simp) | ((first | refine wLabel ?_ | refine wOn ?_ | refine wQn ?_); try simp only [thenA_n])
    all_goals apply hr
    all_goals simp [Try.f50, g0]
set_option maxHeartbeats 2000000 in
theorem dCf (b : List UInt8) (cs : List PV) (hk : fCf.ok cs) (h : (b ++ fCf.en cs).length ≤ 1000000) : ACon Try.prog 17 [.p (.sl 1 (by8 b)), vOf cs] (.p (.sl 1 (by8 (b ++ fCf.en cs)))) := by
  obtain ⟨x0, x1, x2, x3, rfl, k0, k1, k2⟩ := fCf_sh hk
  have hres : b ++ fCf.en [I x0, I x1, I x2, .sl 4 x3] = b ++ fZx.en [I x0, I x1] ++ foI.en [I x2] ++ (fl 4 fMb).en [.sl 4 x3] := by rw [fCf_en]; simp only [catZ3, catZ4, List.append_assoc]
  rw [hres] at h ⊢
  clear hres
  have c0 := dZx b _ k0 (by simp only [List.length_append] at h ⊢; omega)
  have c1 := dInt (b ++ fZx.en [I x0, I x1]) _ k1 (by simp only [List.length_append] at h ⊢; omega)
  have c2 := dlMb (b ++ fZx.en [I x0, I x1] ++ foI.en [I x2]) _ k2 (by simp only [List.length_append] at h ⊢; omega)
  generalize b ++ fZx.en [I x0, I x1] ++ foI.en [I x2] ++ (fl 4 fMb).en [.sl 4 x3] = y3 at *
  generalize b ++ fZx.en [I x0, I x1] ++ foI.en [I x2] = y2 at *
  generalize b ++ fZx.en [I x0, I x1] = y1 at *
  simp only [vOf2, ints, List.map_cons, List.map_nil] at *
  refine wBody Try.tab Try.mixed Try.func17 rfl rfl Try.ntmps17 (by simp) (by simp) fun Q hr hn => ?_
  repeat' first | (refine hK _ ?_; clear hK) | (refine hK _ _ ?_; clear hK) | (clear hK; refine hK _ ?_; clear hK) | (clear hK; clear hK; refine hK _ ?_; clear hK) | (clear hK; clear hK; clear hK; refine hK _ ?_; clear hK) | (clear hK; clear hK; clear hK; clear hK; refine hK _ ?_; clear hK) | (refine wSeq fun K hK => ?_) | ((first | refine wReg ?_ | refine wDrwQ rfl (by kernel_rfl) ?_ | refine wDrwI ?_ | refine wDrw (by kernel_rfl) ?_); simp only [List.map_cons, List.map_nil, strip]) | ((first | refine wIs fun K hK => ?_ | refine wOs fun K hK => ?_ | refine wQs fun K hK => ?_ | refine CallK_plain ?_ | refine CallQ_plain ?_ | refine CallR_plain ?_ | refine wCond ?_); simp) | (refine wIn ?_; refine And.intro (by kernel_rfl) ?_; try simp only [thenA_n]) | (first | refine wBlock ?_ | refine wScope ?_) | ((first | refine wRet ?_ | refine wExit ?_ | refine wSkip ?_); try simp) | ((first | refine wLabel ?_ | refine wOn ?_ | refine wQn ?_); try simp only [thenA_n]) | (refine CallE.pure (c0) rfl ?_) | (refine CallE.lent (c0) rfl ?_) | (refine CallF.pure (c0) rfl ?_) | (refine CallF.lent (c0) rfl ?_) | (refine CallE.own (c0) ?_) | (refine CallH.pure (c0) rfl ?_) | (refine CallH.lent (c0) rfl ?_) | (refine CallH.own (c0) ?_) | (refine CallE.pure (c1) rfl ?_) | (refine CallE.lent (c1) rfl ?_) | (refine CallF.pure (c1) rfl ?_) | (refine CallF.lent (c1) rfl ?_) | (refine CallE.own (c1) ?_) | (refine CallH.pure (c1) rfl ?_) | (refine CallH.lent (c1) rfl ?_) | (refine CallH.own (c1) ?_) | (refine CallE.pure (c2) rfl ?_) | (refine CallE.lent (c2) rfl ?_) | (refine CallF.pure (c2) rfl ?_) | (refine CallF.lent (c2) rfl ?_) | (refine CallE.own (c2) ?_) | (refine CallH.pure (c2) rfl ?_) | (refine CallH.lent (c2) rfl ?_) | (refine CallH.own (c2) ?_)
  all_goals apply hr
  all_goals simp [Try.f17]
set_option maxHeartbeats 2000000 in
theorem dNd (b : List UInt8) (cs : List PV) (hk : fNd.ok cs) (h : (b ++ fNd.en cs).length ≤ 1000000) : ACon Try.prog 44 [.p (.sl 1 (by8 b)), vOf cs] (.p (.sl 1 (by8 (b ++ fNd.en cs)))) := by
  obtain ⟨x0, x1, x2, x3, x4, rfl, k0, k1, k2, k3, k4⟩ := fNd_sh hk
  have hres : b ++ fNd.en [SB x0, SB x1, I x2, I x3, I x4] = b ++ foS.en [SB x0] ++ foS.en [SB x1] ++ catZ [x2, x3, x4] := by rw [fNd_en]; simp only [catZ3, catZ4, List.append_assoc]
  rw [hres] at h ⊢
  clear hres
  have c0 := dText b _ k0 (by simp only [List.length_append] at h ⊢; omega)
  have c1 := dText (b ++ foS.en [SB x0]) _ k1 (by simp only [List.length_append] at h ⊢; omega)
  have c2 := dNums (b ++ foS.en [SB x0] ++ foS.en [SB x1]) [x2, x3, x4] (by intro n hn; simp at hn; rcases hn with rfl | rfl | rfl <;> first | exact hL | exact flO_ok _ | (simp only [← foI_ok]; assumption)) (by simp) (by simp only [List.length_append] at h ⊢; omega)
  generalize b ++ foS.en [SB x0] ++ foS.en [SB x1] ++ catZ [x2, x3, x4] = y3 at *
  generalize b ++ foS.en [SB x0] ++ foS.en [SB x1] = y2 at *
  generalize b ++ foS.en [SB x0] = y1 at *
  simp only [vOf2, ints, List.map_cons, List.map_nil] at *
  refine wBody Try.tab Try.mixed Try.func44 rfl rfl Try.ntmps44 (by simp) (by simp) fun Q hr hn => ?_
  repeat' first | (refine hK _ ?_; clear hK) | (refine hK _ _ ?_; clear hK) | (clear hK; refine hK _ ?_; clear hK) | (clear hK; clear hK; refine hK _ ?_; clear hK) | (clear hK; clear hK; clear hK; refine hK _ ?_; clear hK) | (clear hK; clear hK; clear hK; clear hK; refine hK _ ?_; clear hK) | (refine wSeq fun K hK => ?_) | ((first | refine wReg ?_ | refine wDrwQ rfl (by kernel_rfl) ?_ | refine wDrwI ?_ | refine wDrw (by kernel_rfl) ?_); simp only [List.map_cons, List.map_nil, strip]) | ((first | refine wIs fun K hK => ?_ | refine wOs fun K hK => ?_ | refine wQs fun K hK => ?_ | refine CallK_plain ?_ | refine CallQ_plain ?_ | refine CallR_plain ?_ | refine wCond ?_); simp) | (refine wIn ?_; refine And.intro (by kernel_rfl) ?_; try simp only [thenA_n]) | (first | refine wBlock ?_ | refine wScope ?_) | ((first | refine wRet ?_ | refine wExit ?_ | refine wSkip ?_); try simp) | ((first | refine wLabel ?_ | refine wOn ?_ | refine wQn ?_); try simp only [thenA_n]) | (refine CallE.pure (c0) rfl ?_) | (refine CallE.lent (c0) rfl ?_) | (refine CallF.pure (c0) rfl ?_) | (refine CallF.lent (c0) rfl ?_) | (refine CallE.own (c0) ?_) | (refine CallH.pure (c0) rfl ?_) | (refine CallH.lent (c0) rfl ?_) | (refine CallH.own (c0) ?_) | (refine CallE.pure (c1) rfl ?_) | (refine CallE.lent (c1) rfl ?_) | (refine CallF.pure (c1) rfl ?_) | (refine CallF.lent (c1) rfl ?_) | (refine CallE.own (c1) ?_) | (refine CallH.pure (c1) rfl ?_) | (refine CallH.lent (c1) rfl ?_) | (refine CallH.own (c1) ?_) | (refine CallE.pure (c2) rfl ?_) | (refine CallE.lent (c2) rfl ?_) | (refine CallF.pure (c2) rfl ?_) | (refine CallF.lent (c2) rfl ?_) | (refine CallE.own (c2) ?_) | (refine CallH.pure (c2) rfl ?_) | (refine CallH.lent (c2) rfl ?_) | (refine CallH.own (c2) ?_)
  all_goals apply hr
  all_goals simp [Try.f44]
/- Records, the document's: transactions. -/
set_option maxHeartbeats 4000000 in
theorem dTx (b : List UInt8) (cs : List PV) (hk : fTx.ok cs) (h : (b ++ fTx.en cs).length ≤ 1000000) : ACon Try.prog 13 [.p (.sl 1 (by8 b)), vOf cs] (.p (.sl 1 (by8 (b ++ fTx.en cs)))) := by
  obtain ⟨x0, x1, x2, x3, x4, x5, x6, x7, rfl, k0, k1, k2, k3, k4, k5, k6⟩ := fTx_sh hk
  obtain ⟨hl, ho⟩ := fl_ok k6
  have hL : okI (x7.length : Int) := ⟨by omega, by omega⟩
  have hres : b ++ fTx.en [I x0, I x1, I x2, I x3, I x4, I x5, SB x6, .sl 11 x7] = b ++ fZx.en [I x0, I x1] ++ catZ [x2, x3, x4, x5] ++ foS.en [SB x6] ++ enc (zz (x7.length : Int)) ++ x7.flatMap fPt.en := by simp only [fTx_en, fl_en, fVt_en, fPl_en, catZ2, catZ3, catZ4, catZ6, foI_en, List.append_assoc]
  rw [hres] at h ⊢
  clear hres
  have c0 := dZx b _ k0 (by simp only [List.length_append] at h ⊢; omega)
  have c1 := dNums (b ++ fZx.en [I x0, I x1]) [x2, x3, x4, x5] (by intro n hn; simp at hn; rcases hn with rfl | rfl | rfl | rfl <;> first | exact hL | exact flO_ok _ | (simp only [← foI_ok]; assumption)) (by simp) (by simp only [List.length_append] at h ⊢; omega)
  have c2 := dText (b ++ fZx.en [I x0, I x1] ++ catZ [x2, x3, x4, x5]) _ k5 (by simp only [List.length_append] at h ⊢; omega)
  have c3 := dLen (b ++ fZx.en [I x0, I x1] ++ catZ [x2, x3, x4, x5] ++ foS.en [SB x6]) _ hL (by simp only [List.length_append] at h ⊢; omega)
  have hM : (b ++ fZx.en [I x0, I x1] ++ catZ [x2, x3, x4, x5] ++ foS.en [SB x6] ++ enc (zz (x7.length : Int)) ++ x7.flatMap fPt.en).length ≤ 1000000 := by simp only [List.length_append] at h ⊢; omega
  generalize hX : b ++ fZx.en [I x0, I x1] ++ catZ [x2, x3, x4, x5] ++ foS.en [SB x6] ++ enc (zz (x7.length : Int)) = X at *
  generalize b ++ fZx.en [I x0, I x1] ++ catZ [x2, x3, x4, x5] ++ foS.en [SB x6] = w3 at *
  generalize b ++ fZx.en [I x0, I x1] ++ catZ [x2, x3, x4, x5] = w2 at *
  generalize b ++ fZx.en [I x0, I x1] = w1 at *
  clear hX
  have hl' : x7.length < 9223372036854775808 := by omega
  simp only [vOf2]
  try simp only [ints, List.map_cons, List.map_nil] at *
  refine wBody Try.tab Try.mixed Try.func13 rfl rfl Try.ntmps13 (by simp) (by simp) fun Q hr hn => ?_
  repeat' first | (refine hK _ ?_; clear hK) | (refine hK _ _ ?_; clear hK) | (clear hK; refine hK _ ?_; clear hK) | (clear hK; clear hK; refine hK _ ?_; clear hK) | (clear hK; clear hK; clear hK; refine hK _ ?_; clear hK) | (clear hK; clear hK; clear hK; clear hK; refine hK _ ?_; clear hK) | (refine wSeq fun K hK => ?_) | ((first | refine wReg ?_ | refine wDrwQ rfl (by kernel_rfl) ?_ | refine wDrwI ?_ | refine wDrw (by kernel_rfl) ?_); simp only [List.map_cons, List.map_nil, strip]) | ((first | refine wIs fun K hK => ?_ | refine wOs fun K hK => ?_ | refine wQs fun K hK => ?_ | refine CallK_plain ?_ | refine CallQ_plain ?_ | refine CallR_plain ?_ | refine wCond ?_); simp [hl']) | (refine wIn ?_; refine And.intro (by kernel_rfl) ?_; try simp only [thenA_n]) | (first | refine wBlock ?_ | refine wScope ?_) | ((first | refine wRet ?_ | refine wExit ?_ | refine wSkip ?_); try simp) | ((first | refine wLabel ?_ | refine wOn ?_ | refine wQn ?_); try simp only [thenA_n]) | (refine CallE.pure (c0) rfl ?_) | (refine CallE.lent (c0) rfl ?_) | (refine CallF.pure (c0) rfl ?_) | (refine CallF.lent (c0) rfl ?_) | (refine CallE.own (c0) ?_) | (refine CallH.pure (c0) rfl ?_) | (refine CallH.lent (c0) rfl ?_) | (refine CallH.own (c0) ?_) | (refine CallE.pure (c1) rfl ?_) | (refine CallE.lent (c1) rfl ?_) | (refine CallF.pure (c1) rfl ?_) | (refine CallF.lent (c1) rfl ?_) | (refine CallE.own (c1) ?_) | (refine CallH.pure (c1) rfl ?_) | (refine CallH.lent (c1) rfl ?_) | (refine CallH.own (c1) ?_) | (refine CallE.pure (c2) rfl ?_) | (refine CallE.lent (c2) rfl ?_) | (refine CallF.pure (c2) rfl ?_) | (refine CallF.lent (c2) rfl ?_) | (refine CallE.own (c2) ?_) | (refine CallH.pure (c2) rfl ?_) | (refine CallH.lent (c2) rfl ?_) | (refine CallH.own (c2) ?_) | (refine CallE.pure (c3) rfl ?_) | (refine CallE.lent (c3) rfl ?_) | (refine CallF.pure (c3) rfl ?_) | (refine CallF.lent (c3) rfl ?_) | (refine CallE.own (c3) ?_) | (refine CallH.pure (c3) rfl ?_) | (refine CallH.lent (c3) rfl ?_) | (refine CallH.own (c3) ?_)
  refine wLoop (fun N st => ∃ k, k + N = x7.length ∧ st.s 0 = .p (.sl 1 (by8 (X ++ (x7.take k).flatMap fPt.en))) ∧ st.s 30 = .p (.sl 11 x7) ∧ st.s 31 = .p (I x7.length) ∧ st.s 32 = .p (I k)) x7.length ⟨0, by simp⟩ fun K N st hL2 ⟨k, hk, g0, gl, gn, gi⟩ => ?_
  by_cases hlt : k < x7.length
  · have hlt' : (k : Int) < x7.length := by omega
    have hw := wrapS k _ hlt (by omega)
    have hok := ho x7[k] (List.getElem_mem hlt)
    have hgoal : X ++ (x7.take (k + 1)).flatMap fPt.en = X ++ (x7.take k).flatMap fPt.en ++ fPt.en x7[k] := by rw [flatMap_snoc hlt, List.append_assoc]
    have hpl2 : (X ++ (x7.take k).flatMap fPt.en ++ fPt.en x7[k]).length ≤ 1000000 := by rw [← hgoal]; have := flatMap_take_le fPt.en x7 (k + 1); simp only [List.length_append] at hM ⊢; omega
    have he : x7[k]? = some x7[k] := List.getElem?_eq_getElem hlt
    generalize hQ : x7[k] = r at *
    generalize X ++ (x7.take k).flatMap fPt.en = Y at *
    obtain ⟨z0, z1, z2, z3, z4, z5, z6, z7, z8, z9, z10, rfl, m0, m1, m2, m3⟩ := fPt_sh hok
    have hin : Y ++ fPt.en [I z0, SB z1, SB z2, I z3, I z4, I z5, I z6, I z7, I z8, I z9, .sl 4 z10] = Y ++ foI.en [I z0] ++ fNd.en [SB z1, SB z2, I z3, I z4, I z5] ++ foI.en [I z6] ++ fCf.en [I z7, I z8, I z9, .sl 4 z10] := by rw [fPt_en]; simp only [catZ3, catZ4, foI_en, foB_en, flO, List.append_assoc]
    rw [hin] at hgoal hpl2
    clear hin
    have d0 := dInt Y _ m0 (by simp only [List.length_append] at hpl2 ⊢; omega)
    have d1 := dNd (Y ++ foI.en [I z0]) _ m1 (by simp only [List.length_append] at hpl2 ⊢; omega)
    have d2 := dInt (Y ++ foI.en [I z0] ++ fNd.en [SB z1, SB z2, I z3, I z4, I z5]) _ m2 (by simp only [List.length_append] at hpl2 ⊢; omega)
    have d3 := dCf (Y ++ foI.en [I z0] ++ fNd.en [SB z1, SB z2, I z3, I z4, I z5] ++ foI.en [I z6]) _ m3 (by simp only [List.length_append] at hpl2 ⊢; omega)
    generalize Y ++ foI.en [I z0] ++ fNd.en [SB z1, SB z2, I z3, I z4, I z5] ++ foI.en [I z6] ++ fCf.en [I z7, I z8, I z9, .sl 4 z10] = Y4 at *
    generalize Y ++ foI.en [I z0] ++ fNd.en [SB z1, SB z2, I z3, I z4, I z5] ++ foI.en [I z6] = Y3 at *
    generalize Y ++ foI.en [I z0] ++ fNd.en [SB z1, SB z2, I z3, I z4, I z5] = Y2 at *
    generalize Y ++ foI.en [I z0] = Y1 at *
    try simp only [vOf2, ints, List.map_cons, List.map_nil] at *
    repeat' first | (refine hK _ ?_; clear hK) | (refine hK _ _ ?_; clear hK) | (clear hK; refine hK _ ?_; clear hK) | (clear hK; clear hK; refine hK _ ?_; clear hK) | (clear hK; clear hK; clear hK; refine hK _ ?_; clear hK) | (clear hK; clear hK; clear hK; clear hK; refine hK _ ?_; clear hK) | (refine wSeq fun K hK => ?_) | ((first | refine wReg ?_ | refine wDrwQ rfl (by kernel_rfl) ?_ | refine wDrwI ?_ | refine wDrw (by kernel_rfl) ?_); simp only [List.map_cons, List.map_nil, strip]) | ((first | refine wIs fun K hK => ?_ | refine wOs fun K hK => ?_ | refine wQs fun K hK => ?_ | refine CallK_plain ?_ | refine CallQ_plain ?_ | refine CallR_plain ?_ | refine wCond ?_); simp [g0, gl, gn, gi, hlt, hlt', hw, he, hQ]) | (refine wIn ?_; refine And.intro (by kernel_rfl) ?_; try simp only [thenA_n]) | (first | refine wBlock ?_ | refine wScope ?_) | ((first | refine wRet ?_ | refine wExit ?_ | refine wSkip ?_); try simp) | ((first | refine wLabel ?_ | refine wOn ?_ | refine wQn ?_); try simp only [thenA_n]) | (refine CallE.pure (d0) rfl ?_) | (refine CallE.lent (d0) rfl ?_) | (refine CallF.pure (d0) rfl ?_) | (refine CallF.lent (d0) rfl ?_) | (refine CallE.own (d0) ?_) | (refine CallH.pure (d0) rfl ?_) | (refine CallH.lent (d0) rfl ?_) | (refine CallH.own (d0) ?_) | (refine CallE.pure (d1) rfl ?_) | (refine CallE.lent (d1) rfl ?_) | (refine CallF.pure (d1) rfl ?_) | (refine CallF.lent (d1) rfl ?_) | (refine CallE.own (d1) ?_) | (refine CallH.pure (d1) rfl ?_) | (refine CallH.lent (d1) rfl ?_) | (refine CallH.own (d1) ?_) | (refine CallE.pure (d2) rfl ?_) | (refine CallE.lent (d2) rfl ?_) | (refine CallF.pure (d2) rfl ?_) | (refine CallF.lent (d2) rfl ?_) | (refine CallE.own (d2) ?_) | (refine CallH.pure (d2) rfl ?_) | (refine CallH.lent (d2) rfl ?_) | (refine CallH.own (d2) ?_) | (refine CallE.pure (d3) rfl ?_) | (refine CallE.lent (d3) rfl ?_) | (refine CallF.pure (d3) rfl ?_) | (refine CallF.lent (d3) rfl ?_) | (refine CallE.own (d3) ?_) | (refine CallH.pure (d3) rfl ?_) | (refine CallH.lent (d3) rfl ?_) | (refine CallH.own (d3) ?_)
    refine hL2 _ (N - 1) (by omega) ⟨k + 1, by omega, ?_⟩
    rw [hgoal]
    simp [g0, gl, gn, gi, hw]
  · have hlt' : ¬ (k : Int) < x7.length := by omega
    rw [List.take_of_length_le (by omega)] at g0
    repeat' first | (refine hK _ ?_; clear hK) | (refine hK _ _ ?_; clear hK) | (clear hK; refine hK _ ?_; clear hK) | (clear hK; clear hK; refine hK _ ?_; clear hK) | (clear hK; clear hK; clear hK; refine hK _ ?_; clear hK) | (clear hK; clear hK; clear hK; clear hK; refine hK _ ?_; clear hK) | (refine wSeq fun K hK => ?_) | ((first | refine wReg ?_ | refine wDrwQ rfl (by kernel_rfl) ?_ | refine wDrwI ?_ | refine wDrw (by kernel_rfl) ?_); simp only [List.map_cons, List.map_nil, strip]) | ((first | refine wIs fun K hK => ?_ | refine wOs fun K hK => ?_ | refine wQs fun K hK => ?_ | refine CallK_plain ?_ | refine CallQ_plain ?_ | refine CallR_plain ?_ | refine wCond ?_); simp [g0, gl, gn, gi, hlt, hlt']) | (refine wIn ?_; refine And.intro (by kernel_rfl) ?_; try simp only [thenA_n]) | (first | refine wBlock ?_ | refine wScope ?_) | ((first | refine wRet ?_ | refine wExit ?_ | refine wSkip ?_); try simp) | ((first | refine wLabel ?_ | refine wOn ?_ | refine wQn ?_); try simp only [thenA_n])
    all_goals apply hr
    all_goals simp [Try.f13, g0]
set_option maxHeartbeats 4000000 in
theorem dlTx (b : List UInt8) (rows : List (List PV)) (hk : (fl 8 fTx).ok [.sl 8 rows]) (h : (b ++ (fl 8 fTx).en [.sl 8 rows]).length ≤ 1000000) : ACon Try.prog 56 [.p (.sl 1 (by8 b)), .p (.sl 8 rows)] (.p (.sl 1 (by8 (b ++ (fl 8 fTx).en [.sl 8 rows])))) := by
  obtain ⟨hl, ho⟩ := fl_ok hk
  have hL : okI (rows.length : Int) := ⟨by omega, by omega⟩
  have hres : b ++ (fl 8 fTx).en [.sl 8 rows] = b ++ enc (zz (rows.length : Int)) ++ rows.flatMap fTx.en := by simp only [fl_en, catZ2, catZ3, catZ4, catZ6, foI_en, List.append_assoc]
  rw [hres] at h ⊢
  clear hres
  have c0 := dLen b _ hL (by simp only [List.length_append] at h ⊢; omega)
  have hM : (b ++ enc (zz (rows.length : Int)) ++ rows.flatMap fTx.en).length ≤ 1000000 := by simp only [List.length_append] at h ⊢; omega
  generalize hX : b ++ enc (zz (rows.length : Int)) = X at *
  clear hX
  have hl' : rows.length < 9223372036854775808 := by omega
  try simp only [ints, List.map_cons, List.map_nil] at *
  refine wBody Try.tab Try.mixed Try.func56 rfl rfl Try.ntmps56 (by simp) (by simp) fun Q hr hn => ?_
  repeat' first | (refine hK _ ?_; clear hK) | (refine hK _ _ ?_; clear hK) | (clear hK; refine hK _ ?_; clear hK) | (clear hK; clear hK; refine hK _ ?_; clear hK) | (clear hK; clear hK; clear hK; refine hK _ ?_; clear hK) | (clear hK; clear hK; clear hK; clear hK; refine hK _ ?_; clear hK) | (refine wSeq fun K hK => ?_) | ((first | refine wReg ?_ | refine wDrwQ rfl (by kernel_rfl) ?_ | refine wDrwI ?_ | refine wDrw (by kernel_rfl) ?_); simp only [List.map_cons, List.map_nil, strip]) | ((first | refine wIs fun K hK => ?_ | refine wOs fun K hK => ?_ | refine wQs fun K hK => ?_ | refine CallK_plain ?_ | refine CallQ_plain ?_ | refine CallR_plain ?_ | refine wCond ?_); simp [hl']) | (refine wIn ?_; refine And.intro (by kernel_rfl) ?_; try simp only [thenA_n]) | (first | refine wBlock ?_ | refine wScope ?_) | ((first | refine wRet ?_ | refine wExit ?_ | refine wSkip ?_); try simp) | ((first | refine wLabel ?_ | refine wOn ?_ | refine wQn ?_); try simp only [thenA_n]) | (refine CallE.pure (c0) rfl ?_) | (refine CallE.lent (c0) rfl ?_) | (refine CallF.pure (c0) rfl ?_) | (refine CallF.lent (c0) rfl ?_) | (refine CallE.own (c0) ?_) | (refine CallH.pure (c0) rfl ?_) | (refine CallH.lent (c0) rfl ?_) | (refine CallH.own (c0) ?_)
  refine wLoop (fun N st => ∃ k, k + N = rows.length ∧ st.s 0 = .p (.sl 1 (by8 (X ++ (rows.take k).flatMap fTx.en))) ∧ st.s 11 = .p (.sl 8 rows) ∧ st.s 12 = .p (I rows.length) ∧ st.s 13 = .p (I k)) rows.length ⟨0, by simp⟩ fun K N st hL2 ⟨k, hk, g0, gl, gn, gi⟩ => ?_
  by_cases hlt : k < rows.length
  · have hlt' : (k : Int) < rows.length := by omega
    have hw := wrapS k _ hlt (by omega)
    have hok := ho rows[k] (List.getElem_mem hlt)
    have hgoal : X ++ (rows.take (k + 1)).flatMap fTx.en = X ++ (rows.take k).flatMap fTx.en ++ fTx.en rows[k] := by rw [flatMap_snoc hlt, List.append_assoc]
    have hpl2 : (X ++ (rows.take k).flatMap fTx.en ++ fTx.en rows[k]).length ≤ 1000000 := by rw [← hgoal]; have := flatMap_take_le fTx.en rows (k + 1); simp only [List.length_append] at hM ⊢; omega
    have he : rows[k]? = some rows[k] := List.getElem?_eq_getElem hlt
    generalize hQ : rows[k] = r at *
    generalize X ++ (rows.take k).flatMap fTx.en = Y at *
    have d0 := dTx Y _ hok hpl2
    obtain ⟨z0, z1, z2, z3, z4, z5, z6, z7, rfl, -⟩ := fTx_sh hok
    generalize Y ++ fTx.en [I z0, I z1, I z2, I z3, I z4, I z5, SB z6, .sl 11 z7] = Y1 at *
    simp only [vOf2] at d0
    repeat' first | (refine hK _ ?_; clear hK) | (refine hK _ _ ?_; clear hK) | (clear hK; refine hK _ ?_; clear hK) | (clear hK; clear hK; refine hK _ ?_; clear hK) | (clear hK; clear hK; clear hK; refine hK _ ?_; clear hK) | (clear hK; clear hK; clear hK; clear hK; refine hK _ ?_; clear hK) | (refine wSeq fun K hK => ?_) | ((first | refine wReg ?_ | refine wDrwQ rfl (by kernel_rfl) ?_ | refine wDrwI ?_ | refine wDrw (by kernel_rfl) ?_); simp only [List.map_cons, List.map_nil, strip]) | ((first | refine wIs fun K hK => ?_ | refine wOs fun K hK => ?_ | refine wQs fun K hK => ?_ | refine CallK_plain ?_ | refine CallQ_plain ?_ | refine CallR_plain ?_ | refine wCond ?_); simp [g0, gl, gn, gi, hlt, hlt', hw, he, hQ]) | (refine wIn ?_; refine And.intro (by kernel_rfl) ?_; try simp only [thenA_n]) | (first | refine wBlock ?_ | refine wScope ?_) | ((first | refine wRet ?_ | refine wExit ?_ | refine wSkip ?_); try simp) | ((first | refine wLabel ?_ | refine wOn ?_ | refine wQn ?_); try simp only [thenA_n]) | (refine CallE.pure (d0) rfl ?_) | (refine CallE.lent (d0) rfl ?_) | (refine CallF.pure (d0) rfl ?_) | (refine CallF.lent (d0) rfl ?_) | (refine CallE.own (d0) ?_) | (refine CallH.pure (d0) rfl ?_) | (refine CallH.lent (d0) rfl ?_) | (refine CallH.own (d0) ?_)
    refine hL2 _ (N - 1) (by omega) ⟨k + 1, by omega, ?_⟩
    rw [hgoal]
    simp [g0, gl, gn, gi, hw]
  · have hlt' : ¬ (k : Int) < rows.length := by omega
    rw [List.take_of_length_le (by omega)] at g0
    repeat' first | (refine hK _ ?_; clear hK) | (refine hK _ _ ?_; clear hK) | (clear hK; refine hK _ ?_; clear hK) | (clear hK; clear hK; refine hK _ ?_; clear hK) | (clear hK; clear hK; clear hK; refine hK _ ?_; clear hK) | (clear hK; clear hK; clear hK; clear hK; refine hK _ ?_; clear hK) | (refine wSeq fun K hK => ?_) | ((first | refine wReg ?_ | refine wDrwQ rfl (by kernel_rfl) ?_ | refine wDrwI ?_ | refine wDrw (by kernel_rfl) ?_); simp only [List.map_cons, List.map_nil, strip]) | ((first | refine wIs fun K hK => ?_ | refine wOs fun K hK => ?_ | refine wQs fun K hK => ?_ | refine CallK_plain ?_ | refine CallQ_plain ?_ | refine CallR_plain ?_ | refine wCond ?_); simp [g0, gl, gn, gi, hlt, hlt']) | (refine wIn ?_; refine And.intro (by kernel_rfl) ?_; try simp only [thenA_n]) | (first | refine wBlock ?_ | refine wScope ?_) | ((first | refine wRet ?_ | refine wExit ?_ | refine wSkip ?_); try simp) | ((first | refine wLabel ?_ | refine wOn ?_ | refine wQn ?_); try simp only [thenA_n])
    all_goals apply hr
    all_goals simp [Try.f56, g0]
/- Records, the document's: states. -/
set_option maxHeartbeats 4000000 in
theorem dSt (b : List UInt8) (cs : List PV) (hk : fSt.ok cs) (h : (b ++ fSt.en cs).length ≤ 1000000) : ACon Try.prog 15 [.p (.sl 1 (by8 b)), vOf cs] (.p (.sl 1 (by8 (b ++ fSt.en cs)))) := by
  obtain ⟨x0, x1, x2, x3, x4, x5, x6, x7, x8, rfl, k0, k1, k2, k3, k4⟩ := fSt_sh hk
  obtain ⟨hl, ho⟩ := fl_ok k0
  have hL : okI (x0.length : Int) := ⟨by omega, by omega⟩
  have hres : b ++ fSt.en [.sl 5 x0, .sl 1 x1, I x2, I x3, I x4, I x5, .sl 4 x6, I x7, I x8] = b ++ enc (zz (x0.length : Int)) ++ x0.flatMap fNd.en ++ (fl 1 foI).en [.sl 1 x1] ++ foI.en [I x2] ++ fCf.en [I x3, I x4, I x5, .sl 4 x6] ++ fZx.en [I x7, I x8] := by simp only [fSt_en, fl_en, fVt_en, fPl_en, catZ2, catZ3, catZ4, catZ6, foI_en, List.append_assoc]
  rw [hres] at h ⊢
  clear hres
  have c0 := dLen b _ hL (by simp only [List.length_append] at h ⊢; omega)
  have e0 := dlI (b ++ enc (zz (x0.length : Int)) ++ x0.flatMap fNd.en) _ k1 (by simp only [List.length_append] at h ⊢; omega)
  have e1 := dInt (b ++ enc (zz (x0.length : Int)) ++ x0.flatMap fNd.en ++ (fl 1 foI).en [.sl 1 x1]) _ k2 (by simp only [List.length_append] at h ⊢; omega)
  have e2 := dCf (b ++ enc (zz (x0.length : Int)) ++ x0.flatMap fNd.en ++ (fl 1 foI).en [.sl 1 x1] ++ foI.en [I x2]) _ k3 (by simp only [List.length_append] at h ⊢; omega)
  have e3 := dZx (b ++ enc (zz (x0.length : Int)) ++ x0.flatMap fNd.en ++ (fl 1 foI).en [.sl 1 x1] ++ foI.en [I x2] ++ fCf.en [I x3, I x4, I x5, .sl 4 x6]) _ k4 (by simp only [List.length_append] at h ⊢; omega)
  have hM : (b ++ enc (zz (x0.length : Int)) ++ x0.flatMap fNd.en).length ≤ 1000000 := by simp only [List.length_append] at h ⊢; omega
  generalize b ++ enc (zz (x0.length : Int)) ++ x0.flatMap fNd.en ++ (fl 1 foI).en [.sl 1 x1] ++ foI.en [I x2] ++ fCf.en [I x3, I x4, I x5, .sl 4 x6] ++ fZx.en [I x7, I x8] = y4 at *
  generalize b ++ enc (zz (x0.length : Int)) ++ x0.flatMap fNd.en ++ (fl 1 foI).en [.sl 1 x1] ++ foI.en [I x2] ++ fCf.en [I x3, I x4, I x5, .sl 4 x6] = y3 at *
  generalize b ++ enc (zz (x0.length : Int)) ++ x0.flatMap fNd.en ++ (fl 1 foI).en [.sl 1 x1] ++ foI.en [I x2] = y2 at *
  generalize b ++ enc (zz (x0.length : Int)) ++ x0.flatMap fNd.en ++ (fl 1 foI).en [.sl 1 x1] = y1 at *
  generalize hX : b ++ enc (zz (x0.length : Int)) = X at *
  clear hX
  have hl' : x0.length < 9223372036854775808 := by omega
  simp only [vOf2]
  try simp only [ints, List.map_cons, List.map_nil] at *
  refine wBody Try.tab Try.mixed Try.func15 rfl rfl Try.ntmps15 (by simp) (by simp) fun Q hr hn => ?_
  repeat' first | (refine hK _ ?_; clear hK) | (refine hK _ _ ?_; clear hK) | (clear hK; refine hK _ ?_; clear hK) | (clear hK; clear hK; refine hK _ ?_; clear hK) | (clear hK; clear hK; clear hK; refine hK _ ?_; clear hK) | (clear hK; clear hK; clear hK; clear hK; refine hK _ ?_; clear hK) | (refine wSeq fun K hK => ?_) | ((first | refine wReg ?_ | refine wDrwQ rfl (by kernel_rfl) ?_ | refine wDrwI ?_ | refine wDrw (by kernel_rfl) ?_); simp only [List.map_cons, List.map_nil, strip]) | ((first | refine wIs fun K hK => ?_ | refine wOs fun K hK => ?_ | refine wQs fun K hK => ?_ | refine CallK_plain ?_ | refine CallQ_plain ?_ | refine CallR_plain ?_ | refine wCond ?_); simp [hl']) | (refine wIn ?_; refine And.intro (by kernel_rfl) ?_; try simp only [thenA_n]) | (first | refine wBlock ?_ | refine wScope ?_) | ((first | refine wRet ?_ | refine wExit ?_ | refine wSkip ?_); try simp) | ((first | refine wLabel ?_ | refine wOn ?_ | refine wQn ?_); try simp only [thenA_n]) | (refine CallE.pure (c0) rfl ?_) | (refine CallE.lent (c0) rfl ?_) | (refine CallF.pure (c0) rfl ?_) | (refine CallF.lent (c0) rfl ?_) | (refine CallE.own (c0) ?_) | (refine CallH.pure (c0) rfl ?_) | (refine CallH.lent (c0) rfl ?_) | (refine CallH.own (c0) ?_)
  refine wLoop (fun N st => ∃ k, k + N = x0.length ∧ st.s 0 = .p (.sl 1 (by8 (X ++ (x0.take k).flatMap fNd.en))) ∧ st.s 3 = .ptr 3 0 ∧ st.b 3 = some (.box 35 [.p (.sl 5 x0), .p (.sl 1 x1), .p (I x2), .p (I x3), .p (I x4), .p (I x5), .p (.sl 4 x6), .p (I x7), .p (I x8)]) ∧ st.s 13 = .p (.sl 5 x0) ∧ st.s 14 = .p (I x0.length) ∧ st.s 15 = .p (I k)) x0.length ⟨0, by simp⟩ fun K N st hL2 ⟨k, hk, g0, g3, b3, gl, gn, gi⟩ => ?_
  by_cases hlt : k < x0.length
  · have hlt' : (k : Int) < x0.length := by omega
    have hw := wrapS k _ hlt (by omega)
    have hok := ho x0[k] (List.getElem_mem hlt)
    have hgoal : X ++ (x0.take (k + 1)).flatMap fNd.en = X ++ (x0.take k).flatMap fNd.en ++ fNd.en x0[k] := by rw [flatMap_snoc hlt, List.append_assoc]
    have hpl2 : (X ++ (x0.take k).flatMap fNd.en ++ fNd.en x0[k]).length ≤ 1000000 := by rw [← hgoal]; have := flatMap_take_le fNd.en x0 (k + 1); simp only [List.length_append] at hM ⊢; omega
    have he : x0[k]? = some x0[k] := List.getElem?_eq_getElem hlt
    generalize hQ : x0[k] = r at *
    generalize X ++ (x0.take k).flatMap fNd.en = Y at *
    have d0 := dNd Y _ hok hpl2
    obtain ⟨z0, z1, z2, z3, z4, rfl, -⟩ := fNd_sh hok
    generalize Y ++ fNd.en [SB z0, SB z1, I z2, I z3, I z4] = Y1 at *
    simp only [vOf2] at d0
    repeat' first | (refine hK _ ?_; clear hK) | (refine hK _ _ ?_; clear hK) | (clear hK; refine hK _ ?_; clear hK) | (clear hK; clear hK; refine hK _ ?_; clear hK) | (clear hK; clear hK; clear hK; refine hK _ ?_; clear hK) | (clear hK; clear hK; clear hK; clear hK; refine hK _ ?_; clear hK) | (refine wSeq fun K hK => ?_) | ((first | refine wReg ?_ | refine wDrwQ rfl (by kernel_rfl) ?_ | refine wDrwI ?_ | refine wDrw (by kernel_rfl) ?_); simp only [List.map_cons, List.map_nil, strip]) | ((first | refine wIs fun K hK => ?_ | refine wOs fun K hK => ?_ | refine wQs fun K hK => ?_ | refine CallK_plain ?_ | refine CallQ_plain ?_ | refine CallR_plain ?_ | refine wCond ?_); simp [g0, g3, b3, gl, gn, gi, hlt, hlt', hw, he, hQ]) | (refine wIn ?_; refine And.intro (by kernel_rfl) ?_; try simp only [thenA_n]) | (first | refine wBlock ?_ | refine wScope ?_) | ((first | refine wRet ?_ | refine wExit ?_ | refine wSkip ?_); try simp) | ((first | refine wLabel ?_ | refine wOn ?_ | refine wQn ?_); try simp only [thenA_n]) | (refine CallE.pure (d0) rfl ?_) | (refine CallE.lent (d0) rfl ?_) | (refine CallF.pure (d0) rfl ?_) | (refine CallF.lent (d0) rfl ?_) | (refine CallE.own (d0) ?_) | (refine CallH.pure (d0) rfl ?_) | (refine CallH.lent (d0) rfl ?_) | (refine CallH.own (d0) ?_)
    refine hL2 _ (N - 1) (by omega) ⟨k + 1, by omega, ?_⟩
    rw [hgoal]
    simp [g0, g3, b3, gl, gn, gi, hw]
  · have hlt' : ¬ (k : Int) < x0.length := by omega
    rw [List.take_of_length_le (by omega)] at g0
    repeat' first | (refine hK _ ?_; clear hK) | (refine hK _ _ ?_; clear hK) | (clear hK; refine hK _ ?_; clear hK) | (clear hK; clear hK; refine hK _ ?_; clear hK) | (clear hK; clear hK; clear hK; refine hK _ ?_; clear hK) | (clear hK; clear hK; clear hK; clear hK; refine hK _ ?_; clear hK) | (refine wSeq fun K hK => ?_) | ((first | refine wReg ?_ | refine wDrwQ rfl (by kernel_rfl) ?_ | refine wDrwI ?_ | refine wDrw (by kernel_rfl) ?_); simp only [List.map_cons, List.map_nil, strip]) | ((first | refine wIs fun K hK => ?_ | refine wOs fun K hK => ?_ | refine wQs fun K hK => ?_ | refine CallK_plain ?_ | refine CallQ_plain ?_ | refine CallR_plain ?_ | refine wCond ?_); simp [g0, g3, b3, gl, gn, gi, hlt, hlt']) | (refine wIn ?_; refine And.intro (by kernel_rfl) ?_; try simp only [thenA_n]) | (first | refine wBlock ?_ | refine wScope ?_) | ((first | refine wRet ?_ | refine wExit ?_ | refine wSkip ?_); try simp) | ((first | refine wLabel ?_ | refine wOn ?_ | refine wQn ?_); try simp only [thenA_n]) | (refine CallE.pure (e0) rfl ?_) | (refine CallE.lent (e0) rfl ?_) | (refine CallF.pure (e0) rfl ?_) | (refine CallF.lent (e0) rfl ?_) | (refine CallE.own (e0) ?_) | (refine CallH.pure (e0) rfl ?_) | (refine CallH.lent (e0) rfl ?_) | (refine CallH.own (e0) ?_) | (refine CallE.pure (e1) rfl ?_) | (refine CallE.lent (e1) rfl ?_) | (refine CallF.pure (e1) rfl ?_) | (refine CallF.lent (e1) rfl ?_) | (refine CallE.own (e1) ?_) | (refine CallH.pure (e1) rfl ?_) | (refine CallH.lent (e1) rfl ?_) | (refine CallH.own (e1) ?_) | (refine CallE.pure (e2) rfl ?_) | (refine CallE.lent (e2) rfl ?_) | (refine CallF.pure (e2) rfl ?_) | (refine CallF.lent (e2) rfl ?_) | (refine CallE.own (e2) ?_) | (refine CallH.pure (e2) rfl ?_) | (refine CallH.lent (e2) rfl ?_) | (refine CallH.own (e2) ?_) | (refine CallE.pure (e3) rfl ?_) | (refine CallE.lent (e3) rfl ?_) | (refine CallF.pure (e3) rfl ?_) | (refine CallF.lent (e3) rfl ?_) | (refine CallE.own (e3) ?_) | (refine CallH.pure (e3) rfl ?_) | (refine CallH.lent (e3) rfl ?_) | (refine CallH.own (e3) ?_)
    all_goals apply hr
    all_goals simp [Try.f15, g0]
/- Records: the law RecordPuts. -/
theorem puts_small {t : List PV} (ht : fTx.ok t) (h : txnsR [t] = false) : (fTx.en t).length ≤ 45000 := by
  have h1 := fTx_L.szl t ht
  have h2 := szTx_le ht
  unfold txnsR at h
  have h3 := of_decide_eq_false h
  simp only [List.map_cons, List.map_nil, List.sum_cons, List.sum_nil] at h3
  have : ¬ 100 < wgTx t + 0 := fun g => h3 (.inr (.inr (.inl g)))
  omega
theorem zx_small {t : List PV} (ht : fZx.ok t) : (fZx.en t).length ≤ 20 := fZx_L.szl t ht
set_option maxHeartbeats 4000000 in
theorem recordPuts_con (b : List UInt8) (t s : List PV) (ht : fTx.ok t) (hs : fSt.ok s) (ht2 : BdTx t) (hs2 : ∀ p ∈ s, lenP p ≤ 140737488355328) (hs3 : ∀ q ∈ rowsP ((s[0]?).getD (I 0)), BdN 0 1 q) : ACon Try.prog 3 [.p (.sl 1 (by8 b)), .p (.agg t), .p (.agg s)] (.p (B true)) := by
  have ca := awake12
  have cb := big0_con b
  have ct := txns_con [t] (by intro r hr; rw [List.mem_singleton] at hr; subst hr; exact ht) (by intro r hr; rw [List.mem_singleton] at hr; subst hr; exact ht2)
  have cs := states_con s hs hs3 hs2
  generalize hS : decide (100 < lenP ((s[0]?).getD (I 0)) ∨ 100 < wgSt s) = S at cs
  have pt := fun h => putTx b t ht h
  have qt := fun h => dTx b t ht h
  have ps := fun h => putSt b s hs h
  have qs := fun h => dSt b s hs h
  have hsm := fun h => puts_small ht h
  have hl1 := fSt_L.szl s hs
  have hl2 := szSt_le hs
  obtain ⟨t0, t1, t2, t3, t4, t5, t6, t7, rfl, kz, -⟩ := fTx_sh ht
  obtain ⟨s0, s1, s2, s3, s4, s5, s6, s7, s8, rfl, -, -, -, kc, -⟩ := fSt_sh hs
  have pc := fun h => putCf b _ kc h
  have qc := fun h => dCf b _ kc h
  have pz := fun h => putZx b _ kz h
  have qz := fun h => dZx b _ kz h
  have hz := zx_small kz
  have hc1 := fCf_L.szl _ kc
  have hc2 : fCf.sz [I s3, I s4, I s5, .sl 4 s6] = 20 + (10 + (10 + 40 * s6.length)) := by
    show (10 + 10) + (10 + (fl 4 fMb).sz [.sl 4 s6]) = _
    rw [szl_const szMb]
  have hw : wgSt [.sl 5 s0, .sl 1 s1, I s2, I s3, I s4, I s5, .sl 4 s6, I s7, I s8] = s0.length + s1.length + s6.length + (s0.map wgNd).sum := rfl
  simp only [vOf2, List.getElem?_cons_zero, Option.getD_some, lenP_sl] at *
  by_cases hb : 3000 < b.length
  · rw [decide_eq_true hb] at cb
    clear ct cs pt qt ps qs pc qc pz qz
    refine wBody Try.tab Try.mixed Try.func3 rfl rfl Try.ntmps3 (by simp) (by simp) fun Q hr hn => ?_
    repeat' first | (refine hK _ ?_; clear hK) | (refine hK _ _ ?_; clear hK) | (clear hK; refine hK _ ?_; clear hK) | (clear hK; clear hK; refine hK _ ?_; clear hK) | (clear hK; clear hK; clear hK; refine hK _ ?_; clear hK) | (clear hK; clear hK; clear hK; clear hK; refine hK _ ?_; clear hK) | (refine wSeq fun K hK => ?_) | ((first | refine wReg ?_ | refine wDrwQ rfl (by kernel_rfl) ?_ | refine wDrwI ?_ | refine wDrw (by kernel_rfl) ?_); simp only [List.map_cons, List.map_nil, strip]) | ((first | refine wIs fun K hK => ?_ | refine wOs fun K hK => ?_ | refine wQs fun K hK => ?_ | refine CallK_plain ?_ | refine CallQ_plain ?_ | refine CallR_plain ?_ | refine wCond ?_); simp) | (refine wIn ?_; refine And.intro (by kernel_rfl) ?_; try simp only [thenA_n]) | (first | refine wBlock ?_ | refine wScope ?_) | ((first | refine wRet ?_ | refine wExit ?_ | refine wSkip ?_); try simp) | ((first | refine wLabel ?_ | refine wOn ?_ | refine wQn ?_); try simp only [thenA_n]) | (refine CallE.pure (cb) rfl ?_) | (refine CallE.lent (cb) rfl ?_) | (refine CallF.pure (cb) rfl ?_) | (refine CallF.lent (cb) rfl ?_) | (refine CallE.own (cb) ?_) | (refine CallH.pure (cb) rfl ?_) | (refine CallH.lent (cb) rfl ?_) | (refine CallH.own (cb) ?_) | (refine CallE.pure (ca) rfl ?_) | (refine CallE.lent (ca) rfl ?_) | (refine CallF.pure (ca) rfl ?_) | (refine CallF.lent (ca) rfl ?_) | (refine CallE.own (ca) ?_) | (refine CallH.pure (ca) rfl ?_) | (refine CallH.lent (ca) rfl ?_) | (refine CallH.own (ca) ?_)
    all_goals apply hr
    all_goals simp [Try.f3]
  rw [decide_eq_false hb] at cb
  generalize hT : txnsR [[I t0, I t1, I t2, I t3, I t4, I t5, SB t6, .sl 11 t7]] = T at ct hsm
  cases T
  rotate_left
  · clear cs pt qt ps qs pc qc pz qz
    refine wBody Try.tab Try.mixed Try.func3 rfl rfl Try.ntmps3 (by simp) (by simp) fun Q hr hn => ?_
    repeat' first | (refine hK _ ?_; clear hK) | (refine hK _ _ ?_; clear hK) | (clear hK; refine hK _ ?_; clear hK) | (clear hK; clear hK; refine hK _ ?_; clear hK) | (clear hK; clear hK; clear hK; refine hK _ ?_; clear hK) | (clear hK; clear hK; clear hK; clear hK; refine hK _ ?_; clear hK) | (refine wSeq fun K hK => ?_) | ((first | refine wReg ?_ | refine wDrwQ rfl (by kernel_rfl) ?_ | refine wDrwI ?_ | refine wDrw (by kernel_rfl) ?_); simp only [List.map_cons, List.map_nil, strip]) | ((first | refine wIs fun K hK => ?_ | refine wOs fun K hK => ?_ | refine wQs fun K hK => ?_ | refine CallK_plain ?_ | refine CallQ_plain ?_ | refine CallR_plain ?_ | refine wCond ?_); simp) | (refine wIn ?_; refine And.intro (by kernel_rfl) ?_; try simp only [thenA_n]) | (first | refine wBlock ?_ | refine wScope ?_) | ((first | refine wRet ?_ | refine wExit ?_ | refine wSkip ?_); try simp) | ((first | refine wLabel ?_ | refine wOn ?_ | refine wQn ?_); try simp only [thenA_n]) | (refine CallE.pure (cb) rfl ?_) | (refine CallE.lent (cb) rfl ?_) | (refine CallF.pure (cb) rfl ?_) | (refine CallF.lent (cb) rfl ?_) | (refine CallE.own (cb) ?_) | (refine CallH.pure (cb) rfl ?_) | (refine CallH.lent (cb) rfl ?_) | (refine CallH.own (cb) ?_) | (refine CallE.pure (ct) rfl ?_) | (refine CallE.lent (ct) rfl ?_) | (refine CallF.pure (ct) rfl ?_) | (refine CallF.lent (ct) rfl ?_) | (refine CallE.own (ct) ?_) | (refine CallH.pure (ct) rfl ?_) | (refine CallH.lent (ct) rfl ?_) | (refine CallH.own (ct) ?_) | (refine CallE.pure (ca) rfl ?_) | (refine CallE.lent (ca) rfl ?_) | (refine CallF.pure (ca) rfl ?_) | (refine CallF.lent (ca) rfl ?_) | (refine CallE.own (ca) ?_) | (refine CallH.pure (ca) rfl ?_) | (refine CallH.lent (ca) rfl ?_) | (refine CallH.own (ca) ?_)
    all_goals apply hr
    all_goals simp [Try.f3]
  have hsm := hsm rfl
  cases S
  rotate_left
  · clear pt qt ps qs pc qc pz qz
    refine wBody Try.tab Try.mixed Try.func3 rfl rfl Try.ntmps3 (by simp) (by simp) fun Q hr hn => ?_
    repeat' first | (refine hK _ ?_; clear hK) | (refine hK _ _ ?_; clear hK) | (clear hK; refine hK _ ?_; clear hK) | (clear hK; clear hK; refine hK _ ?_; clear hK) | (clear hK; clear hK; clear hK; refine hK _ ?_; clear hK) | (clear hK; clear hK; clear hK; clear hK; refine hK _ ?_; clear hK) | (refine wSeq fun K hK => ?_) | ((first | refine wReg ?_ | refine wDrwQ rfl (by kernel_rfl) ?_ | refine wDrwI ?_ | refine wDrw (by kernel_rfl) ?_); simp only [List.map_cons, List.map_nil, strip]) | ((first | refine wIs fun K hK => ?_ | refine wOs fun K hK => ?_ | refine wQs fun K hK => ?_ | refine CallK_plain ?_ | refine CallQ_plain ?_ | refine CallR_plain ?_ | refine wCond ?_); simp) | (refine wIn ?_; refine And.intro (by kernel_rfl) ?_; try simp only [thenA_n]) | (first | refine wBlock ?_ | refine wScope ?_) | ((first | refine wRet ?_ | refine wExit ?_ | refine wSkip ?_); try simp) | ((first | refine wLabel ?_ | refine wOn ?_ | refine wQn ?_); try simp only [thenA_n]) | (refine CallE.pure (cb) rfl ?_) | (refine CallE.lent (cb) rfl ?_) | (refine CallF.pure (cb) rfl ?_) | (refine CallF.lent (cb) rfl ?_) | (refine CallE.own (cb) ?_) | (refine CallH.pure (cb) rfl ?_) | (refine CallH.lent (cb) rfl ?_) | (refine CallH.own (cb) ?_) | (refine CallE.pure (ct) rfl ?_) | (refine CallE.lent (ct) rfl ?_) | (refine CallF.pure (ct) rfl ?_) | (refine CallF.lent (ct) rfl ?_) | (refine CallE.own (ct) ?_) | (refine CallH.pure (ct) rfl ?_) | (refine CallH.lent (ct) rfl ?_) | (refine CallH.own (ct) ?_) | (refine CallE.pure (cs) rfl ?_) | (refine CallE.lent (cs) rfl ?_) | (refine CallF.pure (cs) rfl ?_) | (refine CallF.lent (cs) rfl ?_) | (refine CallE.own (cs) ?_) | (refine CallH.pure (cs) rfl ?_) | (refine CallH.lent (cs) rfl ?_) | (refine CallH.own (cs) ?_) | (refine CallE.pure (ca) rfl ?_) | (refine CallE.lent (ca) rfl ?_) | (refine CallF.pure (ca) rfl ?_) | (refine CallF.lent (ca) rfl ?_) | (refine CallE.own (ca) ?_) | (refine CallH.pure (ca) rfl ?_) | (refine CallH.lent (ca) rfl ?_) | (refine CallH.own (ca) ?_)
    all_goals apply hr
    all_goals simp [Try.f3]
  have hS := of_decide_eq_false hS
  have hw2 : wgSt [.sl 5 s0, .sl 1 s1, I s2, I s3, I s4, I s5, .sl 4 s6, I s7, I s8] ≤ 100 := by omega
  have pt := pt (by rw [List.length_append]; omega)
  have qt := qt (by rw [List.length_append]; omega)
  have ps := ps (by rw [List.length_append]; omega)
  have qs := qs (by rw [List.length_append]; omega)
  have pc := pc (by rw [List.length_append]; omega)
  have qc := qc (by rw [List.length_append]; omega)
  have pz := pz (by rw [List.length_append]; omega)
  have qz := qz (by rw [List.length_append]; omega)
  clear hc1 hl1 hz hsm
  generalize b ++ fTx.en [I t0, I t1, I t2, I t3, I t4, I t5, SB t6, .sl 11 t7] = r1 at *
  generalize b ++ fSt.en [.sl 5 s0, .sl 1 s1, I s2, I s3, I s4, I s5, .sl 4 s6, I s7, I s8] = r2 at *
  generalize b ++ fCf.en [I s3, I s4, I s5, .sl 4 s6] = r3 at *
  generalize b ++ fZx.en [I t0, I t1] = r4 at *
  clear hc2 hw hw2 hS hT hb
  refine wBody Try.tab Try.mixed Try.func3 rfl rfl Try.ntmps3 (by simp) (by simp) fun Q hr hn => ?_
  repeat' first | (refine hK _ ?_; clear hK) | (refine hK _ _ ?_; clear hK) | (clear hK; refine hK _ ?_; clear hK) | (clear hK; clear hK; refine hK _ ?_; clear hK) | (clear hK; clear hK; clear hK; refine hK _ ?_; clear hK) | (clear hK; clear hK; clear hK; clear hK; refine hK _ ?_; clear hK) | (refine wSeq fun K hK => ?_) | ((first | refine wReg ?_ | refine wDrwQ rfl (by kernel_rfl) ?_ | refine wDrwI ?_ | refine wDrw (by kernel_rfl) ?_); simp only [List.map_cons, List.map_nil, strip]) | ((first | refine wIs fun K hK => ?_ | refine wOs fun K hK => ?_ | refine wQs fun K hK => ?_ | refine CallK_plain ?_ | refine CallQ_plain ?_ | refine CallR_plain ?_ | refine wCond ?_); simp [unL_by8, strOf_by8]) | (refine wIn ?_; refine And.intro (by kernel_rfl) ?_; try simp only [thenA_n]) | (first | refine wBlock ?_ | refine wScope ?_) | ((first | refine wRet ?_ | refine wExit ?_ | refine wSkip ?_); try simp) | ((first | refine wLabel ?_ | refine wOn ?_ | refine wQn ?_); try simp only [thenA_n]) | (refine CallE.pure (cb) rfl ?_) | (refine CallE.lent (cb) rfl ?_) | (refine CallF.pure (cb) rfl ?_) | (refine CallF.lent (cb) rfl ?_) | (refine CallE.own (cb) ?_) | (refine CallH.pure (cb) rfl ?_) | (refine CallH.lent (cb) rfl ?_) | (refine CallH.own (cb) ?_) | (refine CallE.pure (ct) rfl ?_) | (refine CallE.lent (ct) rfl ?_) | (refine CallF.pure (ct) rfl ?_) | (refine CallF.lent (ct) rfl ?_) | (refine CallE.own (ct) ?_) | (refine CallH.pure (ct) rfl ?_) | (refine CallH.lent (ct) rfl ?_) | (refine CallH.own (ct) ?_) | (refine CallE.pure (cs) rfl ?_) | (refine CallE.lent (cs) rfl ?_) | (refine CallF.pure (cs) rfl ?_) | (refine CallF.lent (cs) rfl ?_) | (refine CallE.own (cs) ?_) | (refine CallH.pure (cs) rfl ?_) | (refine CallH.lent (cs) rfl ?_) | (refine CallH.own (cs) ?_) | (refine CallE.pure (ca) rfl ?_) | (refine CallE.lent (ca) rfl ?_) | (refine CallF.pure (ca) rfl ?_) | (refine CallF.lent (ca) rfl ?_) | (refine CallE.own (ca) ?_) | (refine CallH.pure (ca) rfl ?_) | (refine CallH.lent (ca) rfl ?_) | (refine CallH.own (ca) ?_) | (refine CallE.pure (pt) rfl ?_) | (refine CallE.lent (pt) rfl ?_) | (refine CallF.pure (pt) rfl ?_) | (refine CallF.lent (pt) rfl ?_) | (refine CallE.own (pt) ?_) | (refine CallH.pure (pt) rfl ?_) | (refine CallH.lent (pt) rfl ?_) | (refine CallH.own (pt) ?_) | (refine CallE.pure (qt) rfl ?_) | (refine CallE.lent (qt) rfl ?_) | (refine CallF.pure (qt) rfl ?_) | (refine CallF.lent (qt) rfl ?_) | (refine CallE.own (qt) ?_) | (refine CallH.pure (qt) rfl ?_) | (refine CallH.lent (qt) rfl ?_) | (refine CallH.own (qt) ?_) | (refine CallE.pure (ps) rfl ?_) | (refine CallE.lent (ps) rfl ?_) | (refine CallF.pure (ps) rfl ?_) | (refine CallF.lent (ps) rfl ?_) | (refine CallE.own (ps) ?_) | (refine CallH.pure (ps) rfl ?_) | (refine CallH.lent (ps) rfl ?_) | (refine CallH.own (ps) ?_) | (refine CallE.pure (qs) rfl ?_) | (refine CallE.lent (qs) rfl ?_) | (refine CallF.pure (qs) rfl ?_) | (refine CallF.lent (qs) rfl ?_) | (refine CallE.own (qs) ?_) | (refine CallH.pure (qs) rfl ?_) | (refine CallH.lent (qs) rfl ?_) | (refine CallH.own (qs) ?_) | (refine CallE.pure (pc) rfl ?_) | (refine CallE.lent (pc) rfl ?_) | (refine CallF.pure (pc) rfl ?_) | (refine CallF.lent (pc) rfl ?_) | (refine CallE.own (pc) ?_) | (refine CallH.pure (pc) rfl ?_) | (refine CallH.lent (pc) rfl ?_) | (refine CallH.own (pc) ?_) | (refine CallE.pure (qc) rfl ?_) | (refine CallE.lent (qc) rfl ?_) | (refine CallF.pure (qc) rfl ?_) | (refine CallF.lent (qc) rfl ?_) | (refine CallE.own (qc) ?_) | (refine CallH.pure (qc) rfl ?_) | (refine CallH.lent (qc) rfl ?_) | (refine CallH.own (qc) ?_) | (refine CallE.pure (pz) rfl ?_) | (refine CallE.lent (pz) rfl ?_) | (refine CallF.pure (pz) rfl ?_) | (refine CallF.lent (pz) rfl ?_) | (refine CallE.own (pz) ?_) | (refine CallH.pure (pz) rfl ?_) | (refine CallH.lent (pz) rfl ?_) | (refine CallH.own (pz) ?_) | (refine CallE.pure (qz) rfl ?_) | (refine CallE.lent (qz) rfl ?_) | (refine CallF.pure (qz) rfl ?_) | (refine CallF.lent (qz) rfl ?_) | (refine CallE.own (qz) ?_) | (refine CallH.pure (qz) rfl ?_) | (refine CallH.lent (qz) rfl ?_) | (refine CallH.own (qz) ?_)
  all_goals apply hr
  all_goals simp [Try.f3]
/- Records: which messages the law lets pass. -/
theorem big2_con (x y : Nat) (hx : x ≤ 9223372036854775807) (hy : y ≤ 9223372036854775807) : ACon Try.prog 8 [.p (.sl 1 []), .p (.sl 1 [[I x], [I y]])] (.p (B (decide (100 < x ∨ 100 < y)))) := by
  suffices hall : ∀ D : Bool, (D = true ↔ (100 < x ∨ 100 < y)) → ACon Try.prog 8 [.p (.sl 1 []), .p (.sl 1 [[I x], [I y]])] (.p (B D)) from hall _ decide_eq_true_iff
  intro D hD
  refine wBody Try.tab Try.mixed Try.func8 rfl rfl Try.ntmps8 (by simp) (by simp) fun Q hr hn => ?_
  repeat' first | (refine hK _ ?_; clear hK) | (refine hK _ _ ?_; clear hK) | (clear hK; refine hK _ ?_; clear hK) | (clear hK; clear hK; refine hK _ ?_; clear hK) | (clear hK; clear hK; clear hK; refine hK _ ?_; clear hK) | (clear hK; clear hK; clear hK; clear hK; refine hK _ ?_; clear hK) | (refine wSeq fun K hK => ?_) | ((first | refine wReg ?_ | refine wDrwQ rfl (by kernel_rfl) ?_ | refine wDrwI ?_ | refine wDrw (by kernel_rfl) ?_); simp only [List.map_cons, List.map_nil, strip]) | ((first | refine wIs fun K hK => ?_ | refine wOs fun K hK => ?_ | refine wQs fun K hK => ?_ | refine CallK_plain ?_ | refine CallQ_plain ?_ | refine CallR_plain ?_ | refine wCond ?_); simp) | (refine wIn ?_; refine And.intro (by kernel_rfl) ?_; try simp only [thenA_n]) | (first | refine wBlock ?_ | refine wScope ?_) | ((first | refine wRet ?_ | refine wExit ?_ | refine wSkip ?_); try simp) | ((first | refine wLabel ?_ | refine wOn ?_ | refine wQn ?_); try simp only [thenA_n])
  refine wLoop (fun N st => ∃ k : Nat, k + N = 2 ∧ (1 ≤ k → ¬ 100 < x) ∧ (2 ≤ k → ¬ 100 < y) ∧ st.s 0 = .p (.sl 1 []) ∧ st.s 7 = .p (.sl 1 [[I x], [I y]]) ∧ st.s 8 = .p (I 2) ∧ st.s 9 = .p (I k)) 2 ⟨0, by simp⟩ fun K N st hL ⟨k, hk, q1, q2, g0, g7, g8, g9⟩ => ?_
  match k, hk with
  | 0, hk =>
    by_cases h : 100 < x
    · have h' : (100 : Int) < x := by omega
      rw [hD.2 (.inl h)] at hr
      repeat' first | (refine hK _ ?_; clear hK) | (refine hK _ _ ?_; clear hK) | (clear hK; refine hK _ ?_; clear hK) | (clear hK; clear hK; refine hK _ ?_; clear hK) | (clear hK; clear hK; clear hK; refine hK _ ?_; clear hK) | (clear hK; clear hK; clear hK; clear hK; refine hK _ ?_; clear hK) | (refine wSeq fun K hK => ?_) | ((first | refine wReg ?_ | refine wDrwQ rfl (by kernel_rfl) ?_ | refine wDrwI ?_ | refine wDrw (by kernel_rfl) ?_); simp only [List.map_cons, List.map_nil, strip]) | ((first | refine wIs fun K hK => ?_ | refine wOs fun K hK => ?_ | refine wQs fun K hK => ?_ | refine CallK_plain ?_ | refine CallQ_plain ?_ | refine CallR_plain ?_ | refine wCond ?_); simp [g0, g7, g8, g9, h, h']) | (refine wIn ?_; refine And.intro (by kernel_rfl) ?_; try simp only [thenA_n]) | (first | refine wBlock ?_ | refine wScope ?_) | ((first | refine wRet ?_ | refine wExit ?_ | refine wSkip ?_); try simp) | ((first | refine wLabel ?_ | refine wOn ?_ | refine wQn ?_); try simp only [thenA_n])
      all_goals apply hr
      all_goals simp [Try.f8]
    · have h' : ¬ (100 : Int) < x := by omega
      have hw : IntKind.i64.wrap ((0 : Int) + 1) = 1 := rfl
      repeat' first | (refine hK _ ?_; clear hK) | (refine hK _ _ ?_; clear hK) | (clear hK; refine hK _ ?_; clear hK) | (clear hK; clear hK; refine hK _ ?_; clear hK) | (clear hK; clear hK; clear hK; refine hK _ ?_; clear hK) | (clear hK; clear hK; clear hK; clear hK; refine hK _ ?_; clear hK) | (refine wSeq fun K hK => ?_) | ((first | refine wReg ?_ | refine wDrwQ rfl (by kernel_rfl) ?_ | refine wDrwI ?_ | refine wDrw (by kernel_rfl) ?_); simp only [List.map_cons, List.map_nil, strip]) | ((first | refine wIs fun K hK => ?_ | refine wOs fun K hK => ?_ | refine wQs fun K hK => ?_ | refine CallK_plain ?_ | refine CallQ_plain ?_ | refine CallR_plain ?_ | refine wCond ?_); simp [g0, g7, g8, g9, h, h', hw]) | (refine wIn ?_; refine And.intro (by kernel_rfl) ?_; try simp only [thenA_n]) | (first | refine wBlock ?_ | refine wScope ?_) | ((first | refine wRet ?_ | refine wExit ?_ | refine wSkip ?_); try simp) | ((first | refine wLabel ?_ | refine wOn ?_ | refine wQn ?_); try simp only [thenA_n])
      refine hL _ (N - 1) (by omega) ⟨1, by omega, fun _ => h, fun g => by omega, ?_⟩
      simp [g0, g7, g8, g9, show IntKind.i64.wrap 1 = 1 from rfl]
  | 1, hk =>
    by_cases h : 100 < y
    · have h' : (100 : Int) < y := by omega
      rw [hD.2 (.inr h)] at hr
      repeat' first | (refine hK _ ?_; clear hK) | (refine hK _ _ ?_; clear hK) | (clear hK; refine hK _ ?_; clear hK) | (clear hK; clear hK; refine hK _ ?_; clear hK) | (clear hK; clear hK; clear hK; refine hK _ ?_; clear hK) | (clear hK; clear hK; clear hK; clear hK; refine hK _ ?_; clear hK) | (refine wSeq fun K hK => ?_) | ((first | refine wReg ?_ | refine wDrwQ rfl (by kernel_rfl) ?_ | refine wDrwI ?_ | refine wDrw (by kernel_rfl) ?_); simp only [List.map_cons, List.map_nil, strip]) | ((first | refine wIs fun K hK => ?_ | refine wOs fun K hK => ?_ | refine wQs fun K hK => ?_ | refine CallK_plain ?_ | refine CallQ_plain ?_ | refine CallR_plain ?_ | refine wCond ?_); simp [g0, g7, g8, g9, h, h']) | (refine wIn ?_; refine And.intro (by kernel_rfl) ?_; try simp only [thenA_n]) | (first | refine wBlock ?_ | refine wScope ?_) | ((first | refine wRet ?_ | refine wExit ?_ | refine wSkip ?_); try simp) | ((first | refine wLabel ?_ | refine wOn ?_ | refine wQn ?_); try simp only [thenA_n])
      all_goals apply hr
      all_goals simp [Try.f8]
    · have h' : ¬ (100 : Int) < y := by omega
      repeat' first | (refine hK _ ?_; clear hK) | (refine hK _ _ ?_; clear hK) | (clear hK; refine hK _ ?_; clear hK) | (clear hK; clear hK; refine hK _ ?_; clear hK) | (clear hK; clear hK; clear hK; refine hK _ ?_; clear hK) | (clear hK; clear hK; clear hK; clear hK; refine hK _ ?_; clear hK) | (refine wSeq fun K hK => ?_) | ((first | refine wReg ?_ | refine wDrwQ rfl (by kernel_rfl) ?_ | refine wDrwI ?_ | refine wDrw (by kernel_rfl) ?_); simp only [List.map_cons, List.map_nil, strip]) | ((first | refine wIs fun K hK => ?_ | refine wOs fun K hK => ?_ | refine wQs fun K hK => ?_ | refine CallK_plain ?_ | refine CallQ_plain ?_ | refine CallR_plain ?_ | refine wCond ?_); simp [g0, g7, g8, g9, h, h']) | (refine wIn ?_; refine And.intro (by kernel_rfl) ?_; try simp only [thenA_n]) | (first | refine wBlock ?_ | refine wScope ?_) | ((first | refine wRet ?_ | refine wExit ?_ | refine wSkip ?_); try simp) | ((first | refine wLabel ?_ | refine wOn ?_ | refine wQn ?_); try simp only [thenA_n])
      refine hL _ (N - 1) (by omega) ⟨2, by omega, fun _ => q1 (by omega), fun _ => h, ?_⟩
      simp [g0, g7, g8, g9, show IntKind.i64.wrap 2 = 2 from rfl]
  | 2, hk =>
    have q1 := q1 (by omega)
    have q2 := q2 (by omega)
    rw [show D = false from Bool.eq_false_iff.2 fun h => (hD.1 h).elim q1 q2] at hr
    repeat' first | (refine hK _ ?_; clear hK) | (refine hK _ _ ?_; clear hK) | (clear hK; refine hK _ ?_; clear hK) | (clear hK; clear hK; refine hK _ ?_; clear hK) | (clear hK; clear hK; clear hK; refine hK _ ?_; clear hK) | (clear hK; clear hK; clear hK; clear hK; refine hK _ ?_; clear hK) | (refine wSeq fun K hK => ?_) | ((first | refine wReg ?_ | refine wDrwQ rfl (by kernel_rfl) ?_ | refine wDrwI ?_ | refine wDrw (by kernel_rfl) ?_); simp only [List.map_cons, List.map_nil, strip]) | ((first | refine wIs fun K hK => ?_ | refine wOs fun K hK => ?_ | refine wQs fun K hK => ?_ | refine CallK_plain ?_ | refine CallQ_plain ?_ | refine CallR_plain ?_ | refine wCond ?_); simp [g0, g7, g8, g9]) | (refine wIn ?_; refine And.intro (by kernel_rfl) ?_; try simp only [thenA_n]) | (first | refine wBlock ?_ | refine wScope ?_) | ((first | refine wRet ?_ | refine wExit ?_ | refine wSkip ?_); try simp) | ((first | refine wLabel ?_ | refine wOn ?_ | refine wQn ?_); try simp only [thenA_n])
    all_goals apply hr
    all_goals simp [Try.f8]
  | k + 3, hk => omega
structure MsOK (cs : List PV) : Prop where
  st : ∀ p ∈ (cs.drop 18).take 9, lenP p ≤ 140737488355328
  st2 : ∀ q ∈ rowsP ((((cs.drop 18).take 9)[0]?).getD (I 0)), BdN 0 1 q
  lg : ∀ r ∈ rowsP ((cs[27]?).getD (I 0)), BdTx r
  tx : BdTx ((cs.drop 28).take 8)
  rq : ∀ p ∈ cs.drop 37, lenP p ≤ 140737488355328
  rq2 : ∀ q ∈ rowsP (((cs.drop 37)[3]?).getD (I 0)), BdN 1 2 q
set_option maxHeartbeats 16000000 in
theorem msgs_con (cs : List PV) (hk : fMs.ok cs) (hz : MsOK cs) : ∃ D : Bool, ACon Try.prog 20 [.p (.agg cs)] (.p (B D)) ∧ (D = false → (fMs.en cs).length ≤ 200000 ∧ (fRq.en (cs.drop 37)).length ≤ 20000) := by
  obtain ⟨m0, m1, m2, m3, m4, m5, m6, m7, m8, m9, m10, m11, m12, m13, m14, m15, m16, m17, m18, m19, m20, m21, m22, m23, m24, m25, m26, m27, m28, m29, m30, m31, m32, m33, m34, m35, m36, m37, m38, m39, m40, m41, m42, m43, m44, m45, rfl, k0, k1, k2, k3, k4, k5, k6, k7, k8, k9, k10, k11⟩ := fMs_sh hk
  obtain ⟨p0, p1⟩ := k8
  obtain ⟨p1, p2⟩ := p1
  obtain ⟨p2, p3⟩ := p2
  change foI.ok [I m15] at p0
  change fZx.ok [I m16, I m17] at p1
  change fSt.ok [.sl 5 m18, .sl 1 m19, I m20, I m21, I m22, I m23, .sl 4 m24, I m25, I m26] at p2
  change (fl 8 fTx).ok [.sl 8 m27] at p3
  obtain ⟨lm, om⟩ := fl_ok k7
  obtain ⟨lt, ot⟩ := fl_ok k10
  obtain ⟨ll, ol⟩ := fl_ok p3
  have cB := big2_con m14.length m36.length lm lt
  have cS := states_con [.sl 5 m18, .sl 1 m19, I m20, I m21, I m22, I m23, .sl 4 m24, I m25, I m26] p2 hz.st2 hz.st
  have cL := txns_con m27 ol hz.lg
  have cT := txns_con [[I m28, I m29, I m30, I m31, I m32, I m33, SB m34, .sl 11 m35]] (by intro r hr; rw [List.mem_singleton] at hr; subst hr; exact k9) (by intro r hr; rw [List.mem_singleton] at hr; subst hr; exact hz.tx)
  have cA := asks_con [I m37, I m38, I m39, .sl 6 m40, I m41, .sl 4 m42, .sl 1 m43, I m44, I m45] k11 hz.rq2 hz.rq
  generalize hB : decide (100 < m14.length ∨ 100 < m36.length) = B1 at cB
  generalize hS : decide (100 < lenP (([.sl 5 m18, .sl 1 m19, I m20, I m21, I m22, I m23, .sl 4 m24, I m25, I m26][0]?).getD (I 0)) ∨ 100 < wgSt [.sl 5 m18, .sl 1 m19, I m20, I m21, I m22, I m23, .sl 4 m24, I m25, I m26]) = B2 at cS
  generalize hLg : txnsR m27 = B3 at cL
  generalize hT : txnsR [[I m28, I m29, I m30, I m31, I m32, I m33, SB m34, .sl 11 m35]] = B4 at cT
  generalize hA : decide (100 < lenP (([I m37, I m38, I m39, .sl 6 m40, I m41, .sl 4 m42, .sl 1 m43, I m44, I m45][3]?).getD (I 0)) ∨ 100 < wgRq [I m37, I m38, I m39, .sl 6 m40, I m41, .sl 4 m42, .sl 1 m43, I m44, I m45]) = B5 at cA
  refine ⟨B1 || (B2 || (B3 || (B4 || B5))), ?_, fun h => ?_⟩
  · clear hB hS hLg hT hA hz hk k0 k1 k2 k3 k4 k5 k6 k7 k9 k10 k11 p0 p1 p2 p3 om ot ol
    cases B1
    rotate_left
    · simp only [Bool.true_or]
      refine wBody Try.tab Try.mixed Try.func20 rfl rfl Try.ntmps20 (by simp) (by simp) fun Q hr hn => ?_
      repeat' first | (refine hK _ ?_; clear hK) | (refine hK _ _ ?_; clear hK) | (clear hK; refine hK _ ?_; clear hK) | (clear hK; clear hK; refine hK _ ?_; clear hK) | (clear hK; clear hK; clear hK; refine hK _ ?_; clear hK) | (clear hK; clear hK; clear hK; clear hK; refine hK _ ?_; clear hK) | (refine wSeq fun K hK => ?_) | ((first | refine wReg ?_ | refine wDrwQ rfl (by kernel_rfl) ?_ | refine wDrwI ?_ | refine wDrw (by kernel_rfl) ?_); simp only [List.map_cons, List.map_nil, strip]) | ((first | refine wIs fun K hK => ?_ | refine wOs fun K hK => ?_ | refine wQs fun K hK => ?_ | refine CallK_plain ?_ | refine CallQ_plain ?_ | refine CallR_plain ?_ | refine wCond ?_); simp) | (refine wIn ?_; refine And.intro (by kernel_rfl) ?_; try simp only [thenA_n]) | (first | refine wBlock ?_ | refine wScope ?_) | ((first | refine wRet ?_ | refine wExit ?_ | refine wSkip ?_); try simp) | ((first | refine wLabel ?_ | refine wOn ?_ | refine wQn ?_); try simp only [thenA_n]) | (refine CallE.pure (cB) rfl ?_) | (refine CallE.lent (cB) rfl ?_) | (refine CallF.pure (cB) rfl ?_) | (refine CallF.lent (cB) rfl ?_) | (refine CallE.own (cB) ?_) | (refine CallH.pure (cB) rfl ?_) | (refine CallH.lent (cB) rfl ?_) | (refine CallH.own (cB) ?_)
      all_goals apply hr
      all_goals simp [Try.f20]
    cases B2
    rotate_left
    · simp only [Bool.true_or, Bool.false_or]
      refine wBody Try.tab Try.mixed Try.func20 rfl rfl Try.ntmps20 (by simp) (by simp) fun Q hr hn => ?_
      repeat' first | (refine hK _ ?_; clear hK) | (refine hK _ _ ?_; clear hK) | (clear hK; refine hK _ ?_; clear hK) | (clear hK; clear hK; refine hK _ ?_; clear hK) | (clear hK; clear hK; clear hK; refine hK _ ?_; clear hK) | (clear hK; clear hK; clear hK; clear hK; refine hK _ ?_; clear hK) | (refine wSeq fun K hK => ?_) | ((first | refine wReg ?_ | refine wDrwQ rfl (by kernel_rfl) ?_ | refine wDrwI ?_ | refine wDrw (by kernel_rfl) ?_); simp only [List.map_cons, List.map_nil, strip]) | ((first | refine wIs fun K hK => ?_ | refine wOs fun K hK => ?_ | refine wQs fun K hK => ?_ | refine CallK_plain ?_ | refine CallQ_plain ?_ | refine CallR_plain ?_ | refine wCond ?_); simp) | (refine wIn ?_; refine And.intro (by kernel_rfl) ?_; try simp only [thenA_n]) | (first | refine wBlock ?_ | refine wScope ?_) | ((first | refine wRet ?_ | refine wExit ?_ | refine wSkip ?_); try simp) | ((first | refine wLabel ?_ | refine wOn ?_ | refine wQn ?_); try simp only [thenA_n]) | (refine CallE.pure (cB) rfl ?_) | (refine CallE.lent (cB) rfl ?_) | (refine CallF.pure (cB) rfl ?_) | (refine CallF.lent (cB) rfl ?_) | (refine CallE.own (cB) ?_) | (refine CallH.pure (cB) rfl ?_) | (refine CallH.lent (cB) rfl ?_) | (refine CallH.own (cB) ?_) | (refine CallE.pure (cS) rfl ?_) | (refine CallE.lent (cS) rfl ?_) | (refine CallF.pure (cS) rfl ?_) | (refine CallF.lent (cS) rfl ?_) | (refine CallE.own (cS) ?_) | (refine CallH.pure (cS) rfl ?_) | (refine CallH.lent (cS) rfl ?_) | (refine CallH.own (cS) ?_)
      all_goals apply hr
      all_goals simp [Try.f20]
    cases B3
    rotate_left
    · simp only [Bool.true_or, Bool.false_or]
      refine wBody Try.tab Try.mixed Try.func20 rfl rfl Try.ntmps20 (by simp) (by simp) fun Q hr hn => ?_
      repeat' first | (refine hK _ ?_; clear hK) | (refine hK _ _ ?_; clear hK) | (clear hK; refine hK _ ?_; clear hK) | (clear hK; clear hK; refine hK _ ?_; clear hK) | (clear hK; clear hK; clear hK; refine hK _ ?_; clear hK) | (clear hK; clear hK; clear hK; clear hK; refine hK _ ?_; clear hK) | (refine wSeq fun K hK => ?_) | ((first | refine wReg ?_ | refine wDrwQ rfl (by kernel_rfl) ?_ | refine wDrwI ?_ | refine wDrw (by kernel_rfl) ?_); simp only [List.map_cons, List.map_nil, strip]) | ((first | refine wIs fun K hK => ?_ | refine wOs fun K hK => ?_ | refine wQs fun K hK => ?_ | refine CallK_plain ?_ | refine CallQ_plain ?_ | refine CallR_plain ?_ | refine wCond ?_); simp) | (refine wIn ?_; refine And.intro (by kernel_rfl) ?_; try simp only [thenA_n]) | (first | refine wBlock ?_ | refine wScope ?_) | ((first | refine wRet ?_ | refine wExit ?_ | refine wSkip ?_); try simp) | ((first | refine wLabel ?_ | refine wOn ?_ | refine wQn ?_); try simp only [thenA_n]) | (refine CallE.pure (cB) rfl ?_) | (refine CallE.lent (cB) rfl ?_) | (refine CallF.pure (cB) rfl ?_) | (refine CallF.lent (cB) rfl ?_) | (refine CallE.own (cB) ?_) | (refine CallH.pure (cB) rfl ?_) | (refine CallH.lent (cB) rfl ?_) | (refine CallH.own (cB) ?_) | (refine CallE.pure (cS) rfl ?_) | (refine CallE.lent (cS) rfl ?_) | (refine CallF.pure (cS) rfl ?_) | (refine CallF.lent (cS) rfl ?_) | (refine CallE.own (cS) ?_) | (refine CallH.pure (cS) rfl ?_) | (refine CallH.lent (cS) rfl ?_) | (refine CallH.own (cS) ?_) | (refine CallE.pure (cL) rfl ?_) | (refine CallE.lent (cL) rfl ?_) | (refine CallF.pure (cL) rfl ?_) | (refine CallF.lent (cL) rfl ?_) | (refine CallE.own (cL) ?_) | (refine CallH.pure (cL) rfl ?_) | (refine CallH.lent (cL) rfl ?_) | (refine CallH.own (cL) ?_)
      all_goals apply hr
      all_goals simp [Try.f20]
    cases B4
    rotate_left
    · simp only [Bool.true_or, Bool.false_or]
      refine wBody Try.tab Try.mixed Try.func20 rfl rfl Try.ntmps20 (by simp) (by simp) fun Q hr hn => ?_
      repeat' first | (refine hK _ ?_; clear hK) | (refine hK _ _ ?_; clear hK) | (clear hK; refine hK _ ?_; clear hK) | (clear hK; clear hK; refine hK _ ?_; clear hK) | (clear hK; clear hK; clear hK; refine hK _ ?_; clear hK) | (clear hK; clear hK; clear hK; clear hK; refine hK _ ?_; clear hK) | (refine wSeq fun K hK => ?_) | ((first | refine wReg ?_ | refine wDrwQ rfl (by kernel_rfl) ?_ | refine wDrwI ?_ | refine wDrw (by kernel_rfl) ?_); simp only [List.map_cons, List.map_nil, strip]) | ((first | refine wIs fun K hK => ?_ | refine wOs fun K hK => ?_ | refine wQs fun K hK => ?_ | refine CallK_plain ?_ | refine CallQ_plain ?_ | refine CallR_plain ?_ | refine wCond ?_); simp) | (refine wIn ?_; refine And.intro (by kernel_rfl) ?_; try simp only [thenA_n]) | (first | refine wBlock ?_ | refine wScope ?_) | ((first | refine wRet ?_ | refine wExit ?_ | refine wSkip ?_); try simp) | ((first | refine wLabel ?_ | refine wOn ?_ | refine wQn ?_); try simp only [thenA_n]) | (refine CallE.pure (cB) rfl ?_) | (refine CallE.lent (cB) rfl ?_) | (refine CallF.pure (cB) rfl ?_) | (refine CallF.lent (cB) rfl ?_) | (refine CallE.own (cB) ?_) | (refine CallH.pure (cB) rfl ?_) | (refine CallH.lent (cB) rfl ?_) | (refine CallH.own (cB) ?_) | (refine CallE.pure (cS) rfl ?_) | (refine CallE.lent (cS) rfl ?_) | (refine CallF.pure (cS) rfl ?_) | (refine CallF.lent (cS) rfl ?_) | (refine CallE.own (cS) ?_) | (refine CallH.pure (cS) rfl ?_) | (refine CallH.lent (cS) rfl ?_) | (refine CallH.own (cS) ?_) | (refine CallE.pure (cL) rfl ?_) | (refine CallE.lent (cL) rfl ?_) | (refine CallF.pure (cL) rfl ?_) | (refine CallF.lent (cL) rfl ?_) | (refine CallE.own (cL) ?_) | (refine CallH.pure (cL) rfl ?_) | (refine CallH.lent (cL) rfl ?_) | (refine CallH.own (cL) ?_) | (refine CallE.pure (cT) rfl ?_) | (refine CallE.lent (cT) rfl ?_) | (refine CallF.pure (cT) rfl ?_) | (refine CallF.lent (cT) rfl ?_) | (refine CallE.own (cT) ?_) | (refine CallH.pure (cT) rfl ?_) | (refine CallH.lent (cT) rfl ?_) | (refine CallH.own (cT) ?_)
      all_goals apply hr
      all_goals simp [Try.f20]
    simp only [Bool.false_or]
    refine wBody Try.tab Try.mixed Try.func20 rfl rfl Try.ntmps20 (by simp) (by simp) fun Q hr hn => ?_
    repeat' first | (refine hK _ ?_; clear hK) | (refine hK _ _ ?_; clear hK) | (clear hK; refine hK _ ?_; clear hK) | (clear hK; clear hK; refine hK _ ?_; clear hK) | (clear hK; clear hK; clear hK; refine hK _ ?_; clear hK) | (clear hK; clear hK; clear hK; clear hK; refine hK _ ?_; clear hK) | (refine wSeq fun K hK => ?_) | ((first | refine wReg ?_ | refine wDrwQ rfl (by kernel_rfl) ?_ | refine wDrwI ?_ | refine wDrw (by kernel_rfl) ?_); simp only [List.map_cons, List.map_nil, strip]) | ((first | refine wIs fun K hK => ?_ | refine wOs fun K hK => ?_ | refine wQs fun K hK => ?_ | refine CallK_plain ?_ | refine CallQ_plain ?_ | refine CallR_plain ?_ | refine wCond ?_); simp) | (refine wIn ?_; refine And.intro (by kernel_rfl) ?_; try simp only [thenA_n]) | (first | refine wBlock ?_ | refine wScope ?_) | ((first | refine wRet ?_ | refine wExit ?_ | refine wSkip ?_); try simp) | ((first | refine wLabel ?_ | refine wOn ?_ | refine wQn ?_); try simp only [thenA_n]) | (refine CallE.pure (cB) rfl ?_) | (refine CallE.lent (cB) rfl ?_) | (refine CallF.pure (cB) rfl ?_) | (refine CallF.lent (cB) rfl ?_) | (refine CallE.own (cB) ?_) | (refine CallH.pure (cB) rfl ?_) | (refine CallH.lent (cB) rfl ?_) | (refine CallH.own (cB) ?_) | (refine CallE.pure (cS) rfl ?_) | (refine CallE.lent (cS) rfl ?_) | (refine CallF.pure (cS) rfl ?_) | (refine CallF.lent (cS) rfl ?_) | (refine CallE.own (cS) ?_) | (refine CallH.pure (cS) rfl ?_) | (refine CallH.lent (cS) rfl ?_) | (refine CallH.own (cS) ?_) | (refine CallE.pure (cL) rfl ?_) | (refine CallE.lent (cL) rfl ?_) | (refine CallF.pure (cL) rfl ?_) | (refine CallF.lent (cL) rfl ?_) | (refine CallE.own (cL) ?_) | (refine CallH.pure (cL) rfl ?_) | (refine CallH.lent (cL) rfl ?_) | (refine CallH.own (cL) ?_) | (refine CallE.pure (cT) rfl ?_) | (refine CallE.lent (cT) rfl ?_) | (refine CallF.pure (cT) rfl ?_) | (refine CallF.lent (cT) rfl ?_) | (refine CallE.own (cT) ?_) | (refine CallH.pure (cT) rfl ?_) | (refine CallH.lent (cT) rfl ?_) | (refine CallH.own (cT) ?_) | (refine CallE.pure (cA) rfl ?_) | (refine CallE.lent (cA) rfl ?_) | (refine CallF.pure (cA) rfl ?_) | (refine CallF.lent (cA) rfl ?_) | (refine CallE.own (cA) ?_) | (refine CallH.pure (cA) rfl ?_) | (refine CallH.lent (cA) rfl ?_) | (refine CallH.own (cA) ?_)
    all_goals apply hr
    all_goals simp [Try.f20]
  · simp only [Bool.or_eq_false_iff] at h
    obtain ⟨h1, h2, h3, h4, h5⟩ := h
    subst h1 h2 h3 h4 h5
    have hB := of_decide_eq_false hB
    have hS := of_decide_eq_false hS
    have hA := of_decide_eq_false hA
    have hLg := of_decide_eq_false hLg
    have hT := of_decide_eq_false hT
    have e1 : (fVt.en [I m3, I m4, I m5, I m6, I m7, I m8, I m9]).length ≤ 70 := fVt_L.szl _ k3
    have e2 : (fZx.en [I m12, I m13]).length ≤ 20 := fZx_L.szl _ k6
    have e3 : ((fl 2 fZx).en [.sl 2 m14]).length ≤ 10 + 20 * m14.length := by have := (fl_L fZx_L 2).szl _ k7; rw [szl_const szZx] at this; exact this
    have e4 : (fSt.en [.sl 5 m18, .sl 1 m19, I m20, I m21, I m22, I m23, .sl 4 m24, I m25, I m26]).length ≤ 200 + 120 * wgSt [.sl 5 m18, .sl 1 m19, I m20, I m21, I m22, I m23, .sl 4 m24, I m25, I m26] := Nat.le_trans (fSt_L.szl _ p2) (szSt_le p2)
    have e5 : ((fl 8 fTx).en [.sl 8 m27]).length ≤ 10 + 450 * (m27.map wgTx).sum := Nat.le_trans ((fl_L fTx_L 8).szl _ p3) (by rw [fl_sz]; have := szTxs_le ol; omega)
    have e6 : (fTx.en [I m28, I m29, I m30, I m31, I m32, I m33, SB m34, .sl 11 m35]).length ≤ 450 * wgTx [I m28, I m29, I m30, I m31, I m32, I m33, SB m34, .sl 11 m35] := Nat.le_trans (fTx_L.szl _ k9) (szTx_le k9)
    have e7 : ((fl 1 foI).en [.sl 1 m36]).length ≤ 10 + 10 * m36.length := by have := (fl_L foI_L 1).szl _ k10; rw [szl_const szI] at this; exact this
    have e8 : (fRq.en [I m37, I m38, I m39, .sl 6 m40, I m41, .sl 4 m42, .sl 1 m43, I m44, I m45]).length ≤ 200 + 130 * wgRq [I m37, I m38, I m39, .sl 6 m40, I m41, .sl 4 m42, .sl 1 m43, I m44, I m45] := Nat.le_trans (fRq_L.szl _ k11) (szRq_le k11)
    have e9 : (fZx.en [I m16, I m17]).length ≤ 20 := fZx_L.szl _ p1
    have i0 := foI_L.szl _ k0
    have i1 := foI_L.szl _ k1
    have i2 := foI_L.szl _ k2
    have i4 := foI_L.szl _ k4
    have i5 := foI_L.szl _ k5
    have i6 := foI_L.szl _ p0
    simp only [szI] at i0 i1 i2 i4 i5 i6
    have n1 : ¬ 100 < (m27.map wgTx).sum := fun g => hLg (.inr (.inr (.inl g)))
    have n2 : ¬ 100 < wgTx [I m28, I m29, I m30, I m31, I m32, I m33, SB m34, .sl 11 m35] := fun g => hT (.inr (.inr (.inl (by simpa using g))))
    refine ⟨?_, by show (fRq.en [I m37, I m38, I m39, .sl 6 m40, I m41, .sl 4 m42, .sl 1 m43, I m44, I m45]).length ≤ _; omega⟩
    rw [fMs_en, fPl_en]
    simp only [List.length_append]
    omega
/- Records laid: plans, messages. -/
set_option maxHeartbeats 2000000 in
theorem wPl (b : List UInt8) (cs : List PV) (hk : fPl.ok cs) (h : (b ++ fPl.en cs).length ≤ 30000000) : WCon 90 [vOf cs] b (b ++ fPl.en cs) := by
  obtain ⟨x0, x1, x2, x3, x4, x5, x6, x7, x8, x9, x10, x11, x12, rfl, k0, k1, k2, k3⟩ := fPl_sh hk
  have hres : b ++ fPl.en [I x0, I x1, I x2, .sl 5 x3, .sl 1 x4, I x5, I x6, I x7, I x8, .sl 4 x9, I x10, I x11, .sl 8 x12] = b ++ foI.en [I x0] ++ fZx.en [I x1, I x2] ++ fSt.en [.sl 5 x3, .sl 1 x4, I x5, I x6, I x7, I x8, .sl 4 x9, I x10, I x11] ++ (fl 8 fTx).en [.sl 8 x12] := by rw [fPl_en]; simp only [catI2, catI3, catI4, List.append_assoc]
  rw [hres] at h ⊢
  clear hres
  have c0 := wnumF b x0 k0 (by simp only [List.length_append] at h ⊢; omega)
  have c1 := wZx (b ++ foI.en [I x0]) _ k1 (by simp only [List.length_append] at h ⊢; omega)
  have c2 := wSt (b ++ foI.en [I x0] ++ fZx.en [I x1, I x2]) _ k2 (by simp only [List.length_append] at h ⊢; omega)
  have c3 := wlTx (b ++ foI.en [I x0] ++ fZx.en [I x1, I x2] ++ fSt.en [.sl 5 x3, .sl 1 x4, I x5, I x6, I x7, I x8, .sl 4 x9, I x10, I x11]) x12 k3 h
  generalize b ++ foI.en [I x0] ++ fZx.en [I x1, I x2] ++ fSt.en [.sl 5 x3, .sl 1 x4, I x5, I x6, I x7, I x8, .sl 4 x9, I x10, I x11] ++ (fl 8 fTx).en [.sl 8 x12] = y4 at *
  generalize b ++ foI.en [I x0] ++ fZx.en [I x1, I x2] ++ fSt.en [.sl 5 x3, .sl 1 x4, I x5, I x6, I x7, I x8, .sl 4 x9, I x10, I x11] = y3 at *
  generalize b ++ foI.en [I x0] ++ fZx.en [I x1, I x2] = y2 at *
  generalize b ++ foI.en [I x0] = y1 at *
  simp only [vOf2, ints, List.map_cons, List.map_nil] at *
  refine wBodyG Try.tab Try.mixed Try.func90 rfl rfl Try.ntmps90 (by simp) (by simp) fun Q hr hn hp => ?_
  repeat' first | (refine CallK_gen [1024, 1025] c0 (by decide) (by decide) (by simp [blksOf, inN, pos, renB, ren0, ouN, lv, kpI, kpR]) (by simp [argsG, argG, ren0, inN, pos, renCs, renC]) ⟨[], by simp, by simp, ?_⟩; simp [lv, ouN, kpI, kpR, pos, ren, ren0, renB, renC, renCs]; clear c0) | (refine CallK_gen [1024, 1025] c1 (by decide) (by decide) (by simp [blksOf, inN, pos, renB, ren0, ouN, lv, kpI, kpR]) (by simp [argsG, argG, ren0, inN, pos, renCs, renC]) ⟨[], by simp, by simp, ?_⟩; simp [lv, ouN, kpI, kpR, pos, ren, ren0, renB, renC, renCs]; clear c1) | (refine CallK_gen [1024, 1025] c2 (by decide) (by decide) (by simp [blksOf, inN, pos, renB, ren0, ouN, lv, kpI, kpR]) (by simp [argsG, argG, ren0, inN, pos, renCs, renC]) ⟨[], by simp, by simp, ?_⟩; simp [lv, ouN, kpI, kpR, pos, ren, ren0, renB, renC, renCs]; clear c2) | (refine CallK_gen [1024, 1025] c3 (by decide) (by decide) (by simp [blksOf, inN, pos, renB, ren0, ouN, lv, kpI, kpR]) (by simp [argsG, argG, ren0, inN, pos, renCs, renC]) ⟨[], by simp, by simp, ?_⟩; simp [lv, ouN, kpI, kpR, pos, ren, ren0, renB, renC, renCs]; clear c3) | (refine hK _ ?_; clear hK) | (refine hK _ _ ?_; clear hK) | (clear hK; refine hK _ ?_; clear hK) | (clear hK; clear hK; refine hK _ ?_; clear hK) | (clear hK; clear hK; clear hK; refine hK _ ?_; clear hK) | (clear hK; clear hK; clear hK; clear hK; refine hK _ ?_; clear hK) | (refine wSeq fun K hK => ?_) | ((first | refine wReg ?_ | refine wDrwQ rfl (by kernel_rfl) ?_ | refine wDrwI ?_ | refine wDrw (by kernel_rfl) ?_); simp only [List.map_cons, List.map_nil, strip]) | ((first | refine wIs fun K hK => ?_ | refine wOs fun K hK => ?_ | refine wQs fun K hK => ?_ | refine CallK_plain ?_ | refine CallQ_plain ?_ | refine CallR_plain ?_ | refine wCond ?_); simp [lv, ouN, kpI, kpR, pos, ren, ren0, renB, renC, renCs]) | (refine wIn ?_; refine And.intro (by kernel_rfl) ?_; try simp only [thenA_n]) | (first | refine wBlock ?_ | refine wScope ?_) | ((first | refine wRet ?_ | refine wExit ?_ | refine wSkip ?_); try simp) | ((first | refine wLabel ?_ | refine wOn ?_ | refine wQn ?_); try simp only [thenA_n])
  all_goals first | apply hn | apply hr
  all_goals refine ⟨[], by simp, by simp, ?_⟩
  all_goals simp [Try.f90, outR, outB, renB, gaN, lv, ouN, kpI, kpR, pos, ren, ren0, renC, renCs]
set_option maxHeartbeats 4000000 in
theorem wMs (b : List UInt8) (cs : List PV) (hk : fMs.ok cs) (h : (b ++ fMs.en cs).length ≤ 30000000) : WCon 55 [vOf cs] b (b ++ fMs.en cs) := by
  obtain ⟨x0, x1, x2, x3, x4, x5, x6, x7, x8, x9, x10, x11, x12, x13, x14, x15, x16, x17, x18, x19, x20, x21, x22, x23, x24, x25, x26, x27, x28, x29, x30, x31, x32, x33, x34, x35, x36, x37, x38, x39, x40, x41, x42, x43, x44, x45, rfl, k0, k1, k2, k3, k4, k5, k6, k7, k8, k9, k10, k11⟩ := fMs_sh hk
  have hres : b ++ fMs.en [I x0, I x1, I x2, I x3, I x4, I x5, I x6, I x7, I x8, I x9, I x10, I x11, I x12, I x13, .sl 2 x14, I x15, I x16, I x17, .sl 5 x18, .sl 1 x19, I x20, I x21, I x22, I x23, .sl 4 x24, I x25, I x26, .sl 8 x27, I x28, I x29, I x30, I x31, I x32, I x33, SB x34, .sl 11 x35, .sl 1 x36, I x37, I x38, I x39, .sl 6 x40, I x41, .sl 4 x42, .sl 1 x43, I x44, I x45] = b ++ catI [x0, x1, x2] ++ fVt.en [I x3, I x4, I x5, I x6, I x7, I x8, I x9] ++ catI [x10, x11] ++ fZx.en [I x12, I x13] ++ (fl 2 fZx).en [.sl 2 x14] ++ fPl.en [I x15, I x16, I x17, .sl 5 x18, .sl 1 x19, I x20, I x21, I x22, I x23, .sl 4 x24, I x25, I x26, .sl 8 x27] ++ fTx.en [I x28, I x29, I x30, I x31, I x32, I x33, SB x34, .sl 11 x35] ++ (fl 1 foI).en [.sl 1 x36] ++ fRq.en [I x37, I x38, I x39, .sl 6 x40, I x41, .sl 4 x42, .sl 1 x43, I x44, I x45] := by rw [fMs_en]; simp only [catI2, catI3, catI4, List.append_assoc]
  rw [hres] at h ⊢
  clear hres
  have c0 := wnumsF b [x0, x1, x2] (by intro n hn; simp at hn; rcases hn with rfl | rfl | rfl <;> simp only [← foI_ok] <;> assumption) (by simp) (by simp only [List.length_append] at h ⊢; omega)
  have c1 := wVt (b ++ catI [x0, x1, x2]) _ k3 (by simp only [List.length_append] at h ⊢; omega)
  have c2 := wnumsF (b ++ catI [x0, x1, x2] ++ fVt.en [I x3, I x4, I x5, I x6, I x7, I x8, I x9]) [x10, x11] (by intro n hn; simp at hn; rcases hn with rfl | rfl <;> simp only [← foI_ok] <;> assumption) (by simp) (by simp only [List.length_append] at h ⊢; omega)
  have c3 := wZx (b ++ catI [x0, x1, x2] ++ fVt.en [I x3, I x4, I x5, I x6, I x7, I x8, I x9] ++ catI [x10, x11]) _ k6 (by simp only [List.length_append] at h ⊢; omega)
  have c4 := wlZx (b ++ catI [x0, x1, x2] ++ fVt.en [I x3, I x4, I x5, I x6, I x7, I x8, I x9] ++ catI [x10, x11] ++ fZx.en [I x12, I x13]) x14 k7 (by simp only [List.length_append] at h ⊢; omega)
  have c5 := wPl (b ++ catI [x0, x1, x2] ++ fVt.en [I x3, I x4, I x5, I x6, I x7, I x8, I x9] ++ catI [x10, x11] ++ fZx.en [I x12, I x13] ++ (fl 2 fZx).en [.sl 2 x14]) _ k8 (by simp only [List.length_append] at h ⊢; omega)
  have c6 := wTx (b ++ catI [x0, x1, x2] ++ fVt.en [I x3, I x4, I x5, I x6, I x7, I x8, I x9] ++ catI [x10, x11] ++ fZx.en [I x12, I x13] ++ (fl 2 fZx).en [.sl 2 x14] ++ fPl.en [I x15, I x16, I x17, .sl 5 x18, .sl 1 x19, I x20, I x21, I x22, I x23, .sl 4 x24, I x25, I x26, .sl 8 x27]) _ k9 (by simp only [List.length_append] at h ⊢; omega)
  have c7 := wlI (b ++ catI [x0, x1, x2] ++ fVt.en [I x3, I x4, I x5, I x6, I x7, I x8, I x9] ++ catI [x10, x11] ++ fZx.en [I x12, I x13] ++ (fl 2 fZx).en [.sl 2 x14] ++ fPl.en [I x15, I x16, I x17, .sl 5 x18, .sl 1 x19, I x20, I x21, I x22, I x23, .sl 4 x24, I x25, I x26, .sl 8 x27] ++ fTx.en [I x28, I x29, I x30, I x31, I x32, I x33, SB x34, .sl 11 x35]) x36 k10 (by simp only [List.length_append] at h ⊢; omega)
  have c8 := wRq (b ++ catI [x0, x1, x2] ++ fVt.en [I x3, I x4, I x5, I x6, I x7, I x8, I x9] ++ catI [x10, x11] ++ fZx.en [I x12, I x13] ++ (fl 2 fZx).en [.sl 2 x14] ++ fPl.en [I x15, I x16, I x17, .sl 5 x18, .sl 1 x19, I x20, I x21, I x22, I x23, .sl 4 x24, I x25, I x26, .sl 8 x27] ++ fTx.en [I x28, I x29, I x30, I x31, I x32, I x33, SB x34, .sl 11 x35] ++ (fl 1 foI).en [.sl 1 x36]) _ k11 h
  generalize b ++ catI [x0, x1, x2] ++ fVt.en [I x3, I x4, I x5, I x6, I x7, I x8, I x9] ++ catI [x10, x11] ++ fZx.en [I x12, I x13] ++ (fl 2 fZx).en [.sl 2 x14] ++ fPl.en [I x15, I x16, I x17, .sl 5 x18, .sl 1 x19, I x20, I x21, I x22, I x23, .sl 4 x24, I x25, I x26, .sl 8 x27] ++ fTx.en [I x28, I x29, I x30, I x31, I x32, I x33, SB x34, .sl 11 x35] ++ (fl 1 foI).en [.sl 1 x36] ++ fRq.en [I x37, I x38, I x39, .sl 6 x40, I x41, .sl 4 x42, .sl 1 x43, I x44, I x45] = y9 at *
  generalize b ++ catI [x0, x1, x2] ++ fVt.en [I x3, I x4, I x5, I x6, I x7, I x8, I x9] ++ catI [x10, x11] ++ fZx.en [I x12, I x13] ++ (fl 2 fZx).en [.sl 2 x14] ++ fPl.en [I x15, I x16, I x17, .sl 5 x18, .sl 1 x19, I x20, I x21, I x22, I x23, .sl 4 x24, I x25, I x26, .sl 8 x27] ++ fTx.en [I x28, I x29, I x30, I x31, I x32, I x33, SB x34, .sl 11 x35] ++ (fl 1 foI).en [.sl 1 x36] = y8 at *
  generalize b ++ catI [x0, x1, x2] ++ fVt.en [I x3, I x4, I x5, I x6, I x7, I x8, I x9] ++ catI [x10, x11] ++ fZx.en [I x12, I x13] ++ (fl 2 fZx).en [.sl 2 x14] ++ fPl.en [I x15, I x16, I x17, .sl 5 x18, .sl 1 x19, I x20, I x21, I x22, I x23, .sl 4 x24, I x25, I x26, .sl 8 x27] ++ fTx.en [I x28, I x29, I x30, I x31, I x32, I x33, SB x34, .sl 11 x35] = y7 at *
  generalize b ++ catI [x0, x1, x2] ++ fVt.en [I x3, I x4, I x5, I x6, I x7, I x8, I x9] ++ catI [x10, x11] ++ fZx.en [I x12, I x13] ++ (fl 2 fZx).en [.sl 2 x14] ++ fPl.en [I x15, I x16, I x17, .sl 5 x18, .sl 1 x19, I x20, I x21, I x22, I x23, .sl 4 x24, I x25, I x26, .sl 8 x27] = y6 at *
  generalize b ++ catI [x0, x1, x2] ++ fVt.en [I x3, I x4, I x5, I x6, I x7, I x8, I x9] ++ catI [x10, x11] ++ fZx.en [I x12, I x13] ++ (fl 2 fZx).en [.sl 2 x14] = y5 at *
  generalize b ++ catI [x0, x1, x2] ++ fVt.en [I x3, I x4, I x5, I x6, I x7, I x8, I x9] ++ catI [x10, x11] ++ fZx.en [I x12, I x13] = y4 at *
  generalize b ++ catI [x0, x1, x2] ++ fVt.en [I x3, I x4, I x5, I x6, I x7, I x8, I x9] ++ catI [x10, x11] = y3 at *
  generalize b ++ catI [x0, x1, x2] ++ fVt.en [I x3, I x4, I x5, I x6, I x7, I x8, I x9] = y2 at *
  generalize b ++ catI [x0, x1, x2] = y1 at *
  simp only [vOf2, ints, List.map_cons, List.map_nil] at *
  refine wBodyG Try.tab Try.mixed Try.func55 rfl rfl Try.ntmps55 (by simp) (by simp) fun Q hr hn hp => ?_
  repeat' first | (refine CallK_gen [1024, 1025] c0 (by decide) (by decide) (by simp [blksOf, inN, pos, renB, ren0, ouN, lv, kpI, kpR]) (by simp [argsG, argG, ren0, inN, pos, renCs, renC]) ⟨[], by simp, by simp, ?_⟩; simp [lv, ouN, kpI, kpR, pos, ren, ren0, renB, renC, renCs]; clear c0) | (refine CallK_gen [1024, 1025] c1 (by decide) (by decide) (by simp [blksOf, inN, pos, renB, ren0, ouN, lv, kpI, kpR]) (by simp [argsG, argG, ren0, inN, pos, renCs, renC]) ⟨[], by simp, by simp, ?_⟩; simp [lv, ouN, kpI, kpR, pos, ren, ren0, renB, renC, renCs]; clear c1) | (refine CallK_gen [1024, 1025] c2 (by decide) (by decide) (by simp [blksOf, inN, pos, renB, ren0, ouN, lv, kpI, kpR]) (by simp [argsG, argG, ren0, inN, pos, renCs, renC]) ⟨[], by simp, by simp, ?_⟩; simp [lv, ouN, kpI, kpR, pos, ren, ren0, renB, renC, renCs]; clear c2) | (refine CallK_gen [1024, 1025] c3 (by decide) (by decide) (by simp [blksOf, inN, pos, renB, ren0, ouN, lv, kpI, kpR]) (by simp [argsG, argG, ren0, inN, pos, renCs, renC]) ⟨[], by simp, by simp, ?_⟩; simp [lv, ouN, kpI, kpR, pos, ren, ren0, renB, renC, renCs]; clear c3) | (refine CallK_gen [1024, 1025] c4 (by decide) (by decide) (by simp [blksOf, inN, pos, renB, ren0, ouN, lv, kpI, kpR]) (by simp [argsG, argG, ren0, inN, pos, renCs, renC]) ⟨[], by simp, by simp, ?_⟩; simp [lv, ouN, kpI, kpR, pos, ren, ren0, renB, renC, renCs]; clear c4) | (refine CallK_gen [1024, 1025] c5 (by decide) (by decide) (by simp [blksOf, inN, pos, renB, ren0, ouN, lv, kpI, kpR]) (by simp [argsG, argG, ren0, inN, pos, renCs, renC]) ⟨[], by simp, by simp, ?_⟩; simp [lv, ouN, kpI, kpR, pos, ren, ren0, renB, renC, renCs]; clear c5) | (refine CallK_gen [1024, 1025] c6 (by decide) (by decide) (by simp [blksOf, inN, pos, renB, ren0, ouN, lv, kpI, kpR]) (by simp [argsG, argG, ren0, inN, pos, renCs, renC]) ⟨[], by simp, by simp, ?_⟩; simp [lv, ouN, kpI, kpR, pos, ren, ren0, renB, renC, renCs]; clear c6) | (refine CallK_gen [1024, 1025] c7 (by decide) (by decide) (by simp [blksOf, inN, pos, renB, ren0, ouN, lv, kpI, kpR]) (by simp [argsG, argG, ren0, inN, pos, renCs, renC]) ⟨[], by simp, by simp, ?_⟩; simp [lv, ouN, kpI, kpR, pos, ren, ren0, renB, renC, renCs]; clear c7) | (refine CallK_gen [1024, 1025] c8 (by decide) (by decide) (by simp [blksOf, inN, pos, renB, ren0, ouN, lv, kpI, kpR]) (by simp [argsG, argG, ren0, inN, pos, renCs, renC]) ⟨[], by simp, by simp, ?_⟩; simp [lv, ouN, kpI, kpR, pos, ren, ren0, renB, renC, renCs]; clear c8) | (refine hK _ ?_; clear hK) | (refine hK _ _ ?_; clear hK) | (clear hK; refine hK _ ?_; clear hK) | (clear hK; clear hK; refine hK _ ?_; clear hK) | (clear hK; clear hK; clear hK; refine hK _ ?_; clear hK) | (clear hK; clear hK; clear hK; clear hK; refine hK _ ?_; clear hK) | (refine wSeq fun K hK => ?_) | ((first | refine wReg ?_ | refine wDrwQ rfl (by kernel_rfl) ?_ | refine wDrwI ?_ | refine wDrw (by kernel_rfl) ?_); simp only [List.map_cons, List.map_nil, strip]) | ((first | refine wIs fun K hK => ?_ | refine wOs fun K hK => ?_ | refine wQs fun K hK => ?_ | refine CallK_plain ?_ | refine CallQ_plain ?_ | refine CallR_plain ?_ | refine wCond ?_); simp [lv, ouN, kpI, kpR, pos, ren, ren0, renB, renC, renCs]) | (refine wIn ?_; refine And.intro (by kernel_rfl) ?_; try simp only [thenA_n]) | (first | refine wBlock ?_ | refine wScope ?_) | ((first | refine wRet ?_ | refine wExit ?_ | refine wSkip ?_); try simp) | ((first | refine wLabel ?_ | refine wOn ?_ | refine wQn ?_); try simp only [thenA_n])
  all_goals first | apply hn | apply hr
  all_goals refine ⟨[], by simp, by simp, ?_⟩
  all_goals simp [Try.f55, outR, outB, renB, gaN, lv, ouN, kpI, kpR, pos, ren, ren0, renC, renCs]
/- Records laid: bytes of one's own; requests, messages. -/
set_option maxHeartbeats 4000000 in
theorem putRq (b : List UInt8) (cs : List PV) (hk : fRq.ok cs) (h : (b ++ fRq.en cs).length ≤ 1000000) : ACon Try.prog 23 [.p (.sl 1 (by8 b)), vOf cs] (.p (.sl 1 (by8 (b ++ fRq.en cs)))) := by
  have c := wRq b cs hk (by omega)
  have cl := cloneB (by8 b) (by rw [by8_len]; rw [List.length_append] at h; omega)
  obtain ⟨x0, x1, x2, x3, x4, x5, x6, x7, x8, rfl, -⟩ := fRq_sh hk
  generalize b ++ fRq.en [I x0, I x1, I x2, .sl 6 x3, I x4, .sl 4 x5, .sl 1 x6, I x7, I x8] = r at *
  simp only [vOf2] at *
  have hI : Con Try.prog 57 [.p (.sl 1 (by8 b)), .p (.agg [I x0, I x1, I x2, .sl 6 x3, I x4, .sl 4 x5, .sl 1 x6, I x7, I x8]), .p (.v (.func (.func 58) #[] #[]))] [] (.ret (.row 2048) [.row 5 1 (by8 r)] []) := by
    refine wBodyG Try.tab Try.mixed Try.func57 rfl rfl Try.ntmps57 (by simp) (by simp) fun Q hr hn hp => ?_
    repeat' first | (refine CallK_gen [11, 9] (c) (by decide) (by decide) (by simp [blksOf, inN, pos, renB, renC, renCs, ren0, lv, ouN, kpI, kpR]) (by simp [argsG, argG, ren0, inN, pos, renCs, renC]) ⟨[], by simp, by simp, ?_⟩; simp [lv, ouN, kpI, kpR, pos, ren, ren0, renB, renC, renCs, renF, renFs]) | (refine CallE.own (cl) ?_) | (refine hK _ ?_; clear hK) | (refine hK _ _ ?_; clear hK) | (clear hK; refine hK _ ?_; clear hK) | (clear hK; clear hK; refine hK _ ?_; clear hK) | (clear hK; clear hK; clear hK; refine hK _ ?_; clear hK) | (clear hK; clear hK; clear hK; clear hK; refine hK _ ?_; clear hK) | (refine wSeq fun K hK => ?_) | ((first | refine wReg ?_ | refine wDrwQ rfl (by kernel_rfl) ?_ | refine wDrwI ?_ | refine wDrw (by kernel_rfl) ?_); simp only [List.map_cons, List.map_nil, strip]) | ((first | refine wIs fun K hK => ?_ | refine wOs fun K hK => ?_ | refine wQs fun K hK => ?_ | refine CallK_plain ?_ | refine CallQ_plain ?_ | refine CallR_plain ?_ | refine wCond ?_); simp [lv, ouN, kpI, kpR, pos, ren, ren0, renB, renC, renCs]) | (refine wIn ?_; refine And.intro (by kernel_rfl) ?_; try simp only [thenA_n]) | (first | refine wBlock ?_ | refine wScope ?_) | ((first | refine wRet ?_ | refine wExit ?_ | refine wSkip ?_); try simp) | ((first | refine wLabel ?_ | refine wOn ?_ | refine wQn ?_); try simp only [thenA_n])
    all_goals first | apply hr
    all_goals refine ⟨[9], by simp, by simp, ?_⟩
    all_goals simp [Try.f57, outR, outB, renB, gaN, lv, ouN, kpI, kpR, pos, ren, ren0, renC, renCs]
  have hc := hI.toPure
  refine wBody Try.tab Try.mixed Try.func23 rfl rfl Try.ntmps23 (by simp) (by simp) fun Q hr hn => ?_
  repeat' first | (refine hK _ ?_; clear hK) | (refine hK _ _ ?_; clear hK) | (clear hK; refine hK _ ?_; clear hK) | (clear hK; clear hK; refine hK _ ?_; clear hK) | (clear hK; clear hK; clear hK; refine hK _ ?_; clear hK) | (clear hK; clear hK; clear hK; clear hK; refine hK _ ?_; clear hK) | (refine wSeq fun K hK => ?_) | ((first | refine wReg ?_ | refine wDrwQ rfl (by kernel_rfl) ?_ | refine wDrwI ?_ | refine wDrw (by kernel_rfl) ?_); simp only [List.map_cons, List.map_nil, strip]) | ((first | refine wIs fun K hK => ?_ | refine wOs fun K hK => ?_ | refine wQs fun K hK => ?_ | refine CallK_plain ?_ | refine CallQ_plain ?_ | refine CallR_plain ?_ | refine wCond ?_); simp) | (refine wIn ?_; refine And.intro (by kernel_rfl) ?_; try simp only [thenA_n]) | (first | refine wBlock ?_ | refine wScope ?_) | ((first | refine wRet ?_ | refine wExit ?_ | refine wSkip ?_); try simp) | ((first | refine wLabel ?_ | refine wOn ?_ | refine wQn ?_); try simp only [thenA_n]) | (refine CallE.pure (hc) rfl ?_) | (refine CallE.lent (hc) rfl ?_) | (refine CallF.pure (hc) rfl ?_) | (refine CallF.lent (hc) rfl ?_) | (refine CallE.own (hc) ?_) | (refine CallH.pure (hc) rfl ?_) | (refine CallH.lent (hc) rfl ?_) | (refine CallH.own (hc) ?_)
  all_goals apply hr
  all_goals simp [Try.f23]
set_option maxHeartbeats 4000000 in
theorem putMs (b : List UInt8) (cs : List PV) (hk : fMs.ok cs) (h : (b ++ fMs.en cs).length ≤ 1000000) : ACon Try.prog 21 [.p (.sl 1 (by8 b)), vOf cs] (.p (.sl 1 (by8 (b ++ fMs.en cs)))) := by
  have c := wMs b cs hk (by omega)
  have cl := cloneB (by8 b) (by rw [by8_len]; rw [List.length_append] at h; omega)
  obtain ⟨x0, x1, x2, x3, x4, x5, x6, x7, x8, x9, x10, x11, x12, x13, x14, x15, x16, x17, x18, x19, x20, x21, x22, x23, x24, x25, x26, x27, x28, x29, x30, x31, x32, x33, x34, x35, x36, x37, x38, x39, x40, x41, x42, x43, x44, x45, rfl, -⟩ := fMs_sh hk
  generalize b ++ fMs.en [I x0, I x1, I x2, I x3, I x4, I x5, I x6, I x7, I x8, I x9, I x10, I x11, I x12, I x13, .sl 2 x14, I x15, I x16, I x17, .sl 5 x18, .sl 1 x19, I x20, I x21, I x22, I x23, .sl 4 x24, I x25, I x26, .sl 8 x27, I x28, I x29, I x30, I x31, I x32, I x33, SB x34, .sl 11 x35, .sl 1 x36, I x37, I x38, I x39, .sl 6 x40, I x41, .sl 4 x42, .sl 1 x43, I x44, I x45] = r at *
  simp only [vOf2] at *
  have hI : Con Try.prog 54 [.p (.sl 1 (by8 b)), .p (.agg [I x0, I x1, I x2, I x3, I x4, I x5, I x6, I x7, I x8, I x9, I x10, I x11, I x12, I x13, .sl 2 x14, I x15, I x16, I x17, .sl 5 x18, .sl 1 x19, I x20, I x21, I x22, I x23, .sl 4 x24, I x25, I x26, .sl 8 x27, I x28, I x29, I x30, I x31, I x32, I x33, SB x34, .sl 11 x35, .sl 1 x36, I x37, I x38, I x39, .sl 6 x40, I x41, .sl 4 x42, .sl 1 x43, I x44, I x45]), .p (.v (.func (.func 55) #[] #[]))] [] (.ret (.row 2048) [.row 5 1 (by8 r)] []) := by
    refine wBodyG Try.tab Try.mixed Try.func54 rfl rfl Try.ntmps54 (by simp) (by simp) fun Q hr hn hp => ?_
    repeat' first | (refine CallK_gen [11, 9] (c) (by decide) (by decide) (by simp [blksOf, inN, pos, renB, renC, renCs, ren0, lv, ouN, kpI, kpR]) (by simp [argsG, argG, ren0, inN, pos, renCs, renC]) ⟨[], by simp, by simp, ?_⟩; simp [lv, ouN, kpI, kpR, pos, ren, ren0, renB, renC, renCs, renF, renFs]) | (refine CallE.own (cl) ?_) | (refine hK _ ?_; clear hK) | (refine hK _ _ ?_; clear hK) | (clear hK; refine hK _ ?_; clear hK) | (clear hK; clear hK; refine hK _ ?_; clear hK) | (clear hK; clear hK; clear hK; refine hK _ ?_; clear hK) | (clear hK; clear hK; clear hK; clear hK; refine hK _ ?_; clear hK) | (refine wSeq fun K hK => ?_) | ((first | refine wReg ?_ | refine wDrwQ rfl (by kernel_rfl) ?_ | refine wDrwI ?_ | refine wDrw (by kernel_rfl) ?_); simp only [List.map_cons, List.map_nil, strip]) | ((first | refine wIs fun K hK => ?_ | refine wOs fun K hK => ?_ | refine wQs fun K hK => ?_ | refine CallK_plain ?_ | refine CallQ_plain ?_ | refine CallR_plain ?_ | refine wCond ?_); simp [lv, ouN, kpI, kpR, pos, ren, ren0, renB, renC, renCs]) | (refine wIn ?_; refine And.intro (by kernel_rfl) ?_; try simp only [thenA_n]) | (first | refine wBlock ?_ | refine wScope ?_) | ((first | refine wRet ?_ | refine wExit ?_ | refine wSkip ?_); try simp) | ((first | refine wLabel ?_ | refine wOn ?_ | refine wQn ?_); try simp only [thenA_n])
    all_goals first | apply hr
    all_goals refine ⟨[9], by simp, by simp, ?_⟩
    all_goals simp [Try.f54, outR, outB, renB, gaN, lv, ouN, kpI, kpR, pos, ren, ren0, renC, renCs]
  have hc := hI.toPure
  refine wBody Try.tab Try.mixed Try.func21 rfl rfl Try.ntmps21 (by simp) (by simp) fun Q hr hn => ?_
  repeat' first | (refine hK _ ?_; clear hK) | (refine hK _ _ ?_; clear hK) | (clear hK; refine hK _ ?_; clear hK) | (clear hK; clear hK; refine hK _ ?_; clear hK) | (clear hK; clear hK; clear hK; refine hK _ ?_; clear hK) | (clear hK; clear hK; clear hK; clear hK; refine hK _ ?_; clear hK) | (refine wSeq fun K hK => ?_) | ((first | refine wReg ?_ | refine wDrwQ rfl (by kernel_rfl) ?_ | refine wDrwI ?_ | refine wDrw (by kernel_rfl) ?_); simp only [List.map_cons, List.map_nil, strip]) | ((first | refine wIs fun K hK => ?_ | refine wOs fun K hK => ?_ | refine wQs fun K hK => ?_ | refine CallK_plain ?_ | refine CallQ_plain ?_ | refine CallR_plain ?_ | refine wCond ?_); simp) | (refine wIn ?_; refine And.intro (by kernel_rfl) ?_; try simp only [thenA_n]) | (first | refine wBlock ?_ | refine wScope ?_) | ((first | refine wRet ?_ | refine wExit ?_ | refine wSkip ?_); try simp) | ((first | refine wLabel ?_ | refine wOn ?_ | refine wQn ?_); try simp only [thenA_n]) | (refine CallE.pure (hc) rfl ?_) | (refine CallE.lent (hc) rfl ?_) | (refine CallF.pure (hc) rfl ?_) | (refine CallF.lent (hc) rfl ?_) | (refine CallE.own (hc) ?_) | (refine CallH.pure (hc) rfl ?_) | (refine CallH.lent (hc) rfl ?_) | (refine CallH.own (hc) ?_)
  all_goals apply hr
  all_goals simp [Try.f21]
end Go.Proofs.Ytleejpddecjhcaa
