/- Many servers at once: which server is meant, who backs whom. -/
import Derived.Test.YtefhcofecdecgaaEP
import Derived.Test.YtefhcofecdecgaaQF
import Derived.Test.YtefhcofecdecgaaQH
import Derived.Test.YtefhcofecdecgaaAvMore
namespace Go.Proofs.Ytefhcofecdecgaa
set_option linter.unusedSimpArgs false
set_option linter.unusedVariables false
open Go Go.Av
attribute [local simp] Try.T1 Try.T2 Try.T3 Try.T4 Try.T5 Try.T9 Try.T12 Try.T21 Try.T23 Try.T24 Try.T26 Try.T27 Try.T29 Try.T30 Try.T31 Try.T32 Try.T33 Try.T34 Try.T35 Try.T37 Try.T38 Try.T39 Try.T40 Try.T41 Try.T42 Try.T43 Try.T44 Try.T45 Try.T46 Try.T47 Try.T48 Try.T49 Try.T51 Try.T52 Try.T53 Try.T55 Try.T57 Try.T58 Try.T59 Try.T60 Try.T61 Try.T62 Try.T63 Try.T64 Try.T65 Try.T66 Try.T67 Try.T69 Try.T71 Try.T72 Try.T73 Try.T74 Try.T75 Try.T76 Try.T77 Try.T78 Try.T79 Try.T80 Try.T82 Try.T83 Try.T84 Try.T85 Try.T86 Try.T87 Try.T88 Try.T89 Try.T91 Try.T92 Try.T94 Try.T95 Try.T96 Try.T97 Try.T98 Try.T99 Try.T100 Try.T101 Try.T102 Try.T103 Try.T104 Try.T105 Try.T106 Try.T107 Try.T109 Try.T110 Try.T111 Try.T112 Try.T113 Try.T114 Try.T115 Try.T116 Try.T118 Try.T119 Try.T121 Try.T122 Try.T124 Try.T125 Try.T127 Try.T128 Try.T130 Try.T132 Try.T133 Try.T135 Try.T136 Try.T137 Try.T139 Try.T141 Try.T142 Try.T143 Try.T145 Try.T147 Try.T149 Try.T150 Try.T152 Try.T154 Try.T155 Try.T156 Try.T157 Try.T158 Try.T159 Try.T160 Try.T161 Try.T162 Try.T163 Try.T164 Try.T165 Try.T166 Try.T167 Try.T168 Try.T170 Try.T172 Try.T173 Try.T174 Try.T175 Try.T176 Try.T177 Try.T178 Try.T179 Try.T180 Try.T181 Try.T182 Try.T183 Try.T184 Try.T185 Try.T186 Try.T187 Try.T188 Try.T190 Try.T191 Try.T192 Try.T193 Try.T194 Try.T195 Try.T196 Try.T198 Try.T199 Try.T200 Try.T202 Try.T203 Try.T204 Try.T205 Try.T206 Try.T207 Try.T208 Try.T209 Try.T210 Try.T211 Try.T212 Try.T218 Try.T219 Try.T222
attribute [local irreducible] Go.Av.CallK Go.Av.CallE Go.Av.CallQ Go.Av.CallF Go.Av.Con

theorem u64_modE (t : Int) (L : Nat) (h0 : 0 < L) (hL : L ≤ 1000000) : ∃ n : Nat, n < L ∧ IntKind.i64.wrap (IntKind.u64.wrap t |>.tmod (IntKind.u64.wrap (L : Int))) = (n : Int) ∧ IntKind.u64.wrap (L : Int) ≠ 0 := by
  have e1 : IntKind.u64.wrap (L : Int) = L := by simp [IntKind.wrap, IntKind.bits, IntKind.signed]; omega
  have e2 : 0 ≤ IntKind.u64.wrap t := by simp [IntKind.wrap, IntKind.bits, IntKind.signed]; omega
  rw [e1]
  refine ⟨((IntKind.u64.wrap t).tmod L).toNat, ?_, ?_, by omega⟩
  · rw [Int.tmod_eq_emod_of_nonneg e2]
    have := Int.emod_lt_of_pos (IntKind.u64.wrap t) (show (0 : Int) < L by omega)
    have := Int.emod_nonneg (IntKind.u64.wrap t) (show (L : Int) ≠ 0 by omega)
    omega
  · rw [Int.tmod_eq_emod_of_nonneg e2]
    have h1 := Int.emod_lt_of_pos (IntKind.u64.wrap t) (show (0 : Int) < L by omega)
    have h2 := Int.emod_nonneg (IntKind.u64.wrap t) (show (L : Int) ≠ 0 by omega)
    rw [wrap_id (by omega) (by omega)]; omega
theorem server_con (t : Int) (L : Nat) (h0 : 0 < L) (hL : L ≤ 1000000) : ∃ n : Nat, n < L ∧ ACon Try.prog 41 [.p (I t), .p (I (L : Int))] (.p (I (n : Int))) := by
  obtain ⟨n, hn, h1, h2⟩ := u64_modE t L h0 hL
  refine ⟨n, hn, ?_⟩
  refine wBody Try.tab Try.mixed Try.func41 rfl rfl Try.ntmps41 (by simp) (by simp) fun Q hr hn => ?_
  repeat' first | (refine hK _ ?_; clear hK) | (refine hK _ _ ?_; clear hK) | (clear hK; refine hK _ ?_; clear hK) | (clear hK; clear hK; refine hK _ ?_; clear hK) | (clear hK; clear hK; clear hK; refine hK _ ?_; clear hK) | (clear hK; clear hK; clear hK; clear hK; refine hK _ ?_; clear hK) | (refine wSeq fun K hK => ?_) | (refine wReg ?_; simp only [List.map_cons, List.map_nil, strip]) | (refine wDrwQ rfl (by kernel_rfl) ?_; simp only [List.map_cons, List.map_nil, strip]) | (refine wDrwI ?_; simp only [List.map_cons, List.map_nil, strip]) | (refine wDrw (by kernel_rfl) ?_; simp only [List.map_cons, List.map_nil, strip]) | (refine wIs fun K hK => ?_; simp [h1, h2]) | (refine wIn ?_; refine And.intro (by kernel_rfl) ?_; try simp only [thenA_n]) | (refine wOs fun K hK => ?_; simp [h1, h2]) | (refine wQs fun K hK => ?_; simp [h1, h2]) | (refine CallK_plain ?_; simp [h1, h2]) | (refine CallQ_plain ?_; simp [h1, h2]) | (refine wRet ?_; try simp) | (refine wCond ?_; simp [h1, h2]) | (refine wBlock ?_) | (refine wScope ?_) | (refine wExit ?_; try simp) | (refine wSkip ?_; try simp) | (refine wOn ?_; try simp only [thenA_n]) | (refine wQn ?_; try simp only [thenA_n])
  all_goals apply hr
  all_goals simp [Try.f41, h1]
def sks (l : List Sk) : List (List PV) := l.map Sk.cells
@[simp] theorem sks_len (l : List Sk) : (sks l).length = l.length := by simp [sks]
theorem sks_get {l : List Sk} {k : Nat} (h : k < l.length) : (sks l)[k]? = some [I l[k].id, I l[k].rd, I l[k].own.f, I l[k].own.r, I l[k].own.e, I l[k].own.le, I l[k].own.ln, I l[k].own.c, I l[k].own.m, I l[k].now.f, I l[k].now.r, I l[k].now.e, I l[k].now.le, I l[k].now.ln, I l[k].now.c, I l[k].now.m, .sl 7 (vts l[k].hd)] := by simp [sks, h, Sk.cells]
@[simp] theorem sks_getE {l : List Sk} {k : Nat} (h : k < (sks l).length) : (sks l)[k] = [I (l[k]'(by simpa using h)).id, I (l[k]'(by simpa using h)).rd, I (l[k]'(by simpa using h)).own.f, I (l[k]'(by simpa using h)).own.r, I (l[k]'(by simpa using h)).own.e, I (l[k]'(by simpa using h)).own.le, I (l[k]'(by simpa using h)).own.ln, I (l[k]'(by simpa using h)).own.c, I (l[k]'(by simpa using h)).own.m, I (l[k]'(by simpa using h)).now.f, I (l[k]'(by simpa using h)).now.r, I (l[k]'(by simpa using h)).now.e, I (l[k]'(by simpa using h)).now.le, I (l[k]'(by simpa using h)).now.ln, I (l[k]'(by simpa using h)).now.c, I (l[k]'(by simpa using h)).now.m, .sl 7 (vts (l[k]'(by simpa using h)).hd)] := by simp [sks, Sk.cells]
def backers (l : List Sk) (n : Int) : List Int := (l.filter fun s => decide (s.now.c = n)).map Sk.id
theorem backers_snoc (l : List Sk) (n : Int) (k : Nat) (h : k < l.length) : backers (l.take (k + 1)) n = if l[k].now.c = n then backers (l.take k) n ++ [l[k].id] else backers (l.take k) n := by
  rw [List.take_succ_eq_append_getElem h]; unfold backers
  rw [List.filter_append]
  by_cases g : l[k].now.c = n
  · rw [if_pos g]; simp [List.filter, g]
  · rw [if_neg g]; simp [List.filter, g]
theorem backers_len (l : List Sk) (n : Int) (k : Nat) : (backers (l.take k) n).length ≤ k := by
  unfold backers; rw [List.length_map]
  exact Nat.le_trans (List.length_filter_le _ _) (by simp; omega)
theorem backed_con (l : List Sk) (c : Cf) (n : Int) (hl : l.length ≤ 1000) (hm : c.ms.length ≤ 1000000) :
    ACon Try.prog 43 [.p (.sl 17 (sks l)), .p (.agg c.cells), .p (I n)] (.p (B (isQ c (backers l n)))) := by
  have h1 := is05_con c (backers l n) hm
  have hsn := fun k h => backers_snoc l n k h
  have hln := fun k => backers_len l n k
  have hfin : backers l n = backers (l.take l.length) n := by rw [List.take_length]
  obtain ⟨ep, cn, ck, ms⟩ := c
  simp only [Cf.cells] at h1 ⊢
  refine wBody Try.tab Try.mixed Try.func43 rfl rfl Try.ntmps43 (by simp) (by simp) fun Q hr hn => ?_
  repeat' first | (refine hK _ ?_; clear hK) | (refine hK _ _ ?_; clear hK) | (clear hK; refine hK _ ?_; clear hK) | (clear hK; clear hK; refine hK _ ?_; clear hK) | (clear hK; clear hK; clear hK; refine hK _ ?_; clear hK) | (clear hK; clear hK; clear hK; clear hK; refine hK _ ?_; clear hK) | (refine wSeq fun K hK => ?_) | (refine wReg ?_; simp only [List.map_cons, List.map_nil, strip]) | (refine wDrwQ rfl (by kernel_rfl) ?_; simp only [List.map_cons, List.map_nil, strip]) | (refine wDrwI ?_; simp only [List.map_cons, List.map_nil, strip]) | (refine wDrw (by kernel_rfl) ?_; simp only [List.map_cons, List.map_nil, strip]) | (refine wIs fun K hK => ?_; simp) | (refine wIn ?_; refine And.intro (by kernel_rfl) ?_; try simp only [thenA_n]) | (refine wOs fun K hK => ?_; simp) | (refine wQs fun K hK => ?_; simp) | (refine CallK_plain ?_; simp) | (refine CallQ_plain ?_; simp) | (refine wRet ?_; try simp) | (refine wCond ?_; simp) | (refine wBlock ?_) | (refine wScope ?_) | (refine wExit ?_; try simp) | (refine wSkip ?_; try simp) | (refine wOn ?_; try simp only [thenA_n]) | (refine wQn ?_; try simp only [thenA_n])
  refine wLoopG [.row 7 3 1] (fun N st => ∃ k, k + N = l.length ∧ st.s 4 = .ptr 4 0 ∧ st.b 4 = some (.box 26 [.p (I ep), .p (I cn), .p (I ck), .p (.sl 4 (mbs ms))]) ∧ st.s 2 = .p (I n) ∧ st.s 7 = .row 7 ∧ st.s 10 = .p (.sl 17 (sks l)) ∧ st.s 11 = .p (I l.length) ∧ st.s 12 = .p (I k) ∧
    st.b 7 = some (.row 3 1 (ints (backers (l.take k) n)))) l.length ⟨0, by simp [backers, ints]⟩ fun K N st hL ⟨k, hk, g4, b4, g2, g7, g10, g11, g12, b7⟩ => ?_
  by_cases hlt : k < l.length
  · have hw := wrapS k _ hlt (by omega)
    have hlnk := hln k
    have hsk := hsn k hlt
    have he := sks_get hlt
    by_cases o : l[k].now.c = n
    · rw [if_pos o] at hsk
      repeat' first | (refine And.intro (by omega) ?_) | (refine hK _ ?_; clear hK) | (refine hK _ _ ?_; clear hK) | (clear hK; refine hK _ ?_; clear hK) | (clear hK; clear hK; refine hK _ ?_; clear hK) | (clear hK; clear hK; clear hK; refine hK _ ?_; clear hK) | (clear hK; clear hK; clear hK; clear hK; refine hK _ ?_; clear hK) | (refine wSeq fun K hK => ?_) | (refine wReg ?_; simp only [List.map_cons, List.map_nil, strip]) | (refine wDrwQ rfl (by kernel_rfl) ?_; simp only [List.map_cons, List.map_nil, strip]) | (refine wDrwI ?_; simp only [List.map_cons, List.map_nil, strip]) | (refine wDrw (by kernel_rfl) ?_; simp only [List.map_cons, List.map_nil, strip]) | (refine wIs fun K hK => ?_; simp [g4, b4, g2, g7, g10, g11, g12, b7, hlt, hw, he, o]) | (refine wIn ?_; refine And.intro (by kernel_rfl) ?_; try simp only [thenA_n]) | (refine wOs fun K hK => ?_; simp [g4, b4, g2, g7, g10, g11, g12, b7, hlt, hw, he, o]) | (refine wQs fun K hK => ?_; simp [g4, b4, g2, g7, g10, g11, g12, b7, hlt, hw, he, o]) | (refine CallK_plain ?_; simp [g4, b4, g2, g7, g10, g11, g12, b7, hlt, hw, he, o]) | (refine CallQ_plain ?_; simp [g4, b4, g2, g7, g10, g11, g12, b7, hlt, hw, he, o]) | (refine wRet ?_; try simp) | (refine wCond ?_; simp [g4, b4, g2, g7, g10, g11, g12, b7, hlt, hw, he, o]) | (refine wBlock ?_) | (refine wScope ?_) | (refine wExit ?_; try simp) | (refine wSkip ?_; try simp) | (refine wOn ?_; try simp only [thenA_n]) | (refine wQn ?_; try simp only [thenA_n])
      refine hL _ (N - 1) (by omega) ⟨k + 1, by omega, ?_⟩
      simp [g4, b4, g2, g7, g10, g11, g12, b7, hw, hsk, ints_snoc]
    · rw [if_neg o] at hsk
      repeat' first | (refine hK _ ?_; clear hK) | (refine hK _ _ ?_; clear hK) | (clear hK; refine hK _ ?_; clear hK) | (clear hK; clear hK; refine hK _ ?_; clear hK) | (clear hK; clear hK; clear hK; refine hK _ ?_; clear hK) | (clear hK; clear hK; clear hK; clear hK; refine hK _ ?_; clear hK) | (refine wSeq fun K hK => ?_) | (refine wReg ?_; simp only [List.map_cons, List.map_nil, strip]) | (refine wDrwQ rfl (by kernel_rfl) ?_; simp only [List.map_cons, List.map_nil, strip]) | (refine wDrwI ?_; simp only [List.map_cons, List.map_nil, strip]) | (refine wDrw (by kernel_rfl) ?_; simp only [List.map_cons, List.map_nil, strip]) | (refine wIs fun K hK => ?_; simp [g4, b4, g2, g7, g10, g11, g12, b7, hlt, hw, he, o]) | (refine wIn ?_; refine And.intro (by kernel_rfl) ?_; try simp only [thenA_n]) | (refine wOs fun K hK => ?_; simp [g4, b4, g2, g7, g10, g11, g12, b7, hlt, hw, he, o]) | (refine wQs fun K hK => ?_; simp [g4, b4, g2, g7, g10, g11, g12, b7, hlt, hw, he, o]) | (refine CallK_plain ?_; simp [g4, b4, g2, g7, g10, g11, g12, b7, hlt, hw, he, o]) | (refine CallQ_plain ?_; simp [g4, b4, g2, g7, g10, g11, g12, b7, hlt, hw, he, o]) | (refine wRet ?_; try simp) | (refine wCond ?_; simp [g4, b4, g2, g7, g10, g11, g12, b7, hlt, hw, he, o]) | (refine wBlock ?_) | (refine wScope ?_) | (refine wExit ?_; try simp) | (refine wSkip ?_; try simp) | (refine wOn ?_; try simp only [thenA_n]) | (refine wQn ?_; try simp only [thenA_n])
      refine hL _ (N - 1) (by omega) ⟨k + 1, by omega, ?_⟩
      simp [g4, b4, g2, g7, g10, g11, g12, b7, hw, hsk]
  · rw [List.take_of_length_le (by omega)] at b7
    repeat' first | (refine hK _ ?_; clear hK) | (refine hK _ _ ?_; clear hK) | (clear hK; refine hK _ ?_; clear hK) | (clear hK; clear hK; refine hK _ ?_; clear hK) | (clear hK; clear hK; clear hK; refine hK _ ?_; clear hK) | (clear hK; clear hK; clear hK; clear hK; refine hK _ ?_; clear hK) | (refine wSeq fun K hK => ?_) | (refine wReg ?_; simp only [List.map_cons, List.map_nil, strip]) | (refine wDrwQ rfl (by kernel_rfl) ?_; simp only [List.map_cons, List.map_nil, strip]) | (refine wDrwI ?_; simp only [List.map_cons, List.map_nil, strip]) | (refine wDrw (by kernel_rfl) ?_; simp only [List.map_cons, List.map_nil, strip]) | (refine wIs fun K hK => ?_; simp [g4, b4, g2, g7, g10, g11, g12, b7, hlt]) | (refine wIn ?_; refine And.intro (by kernel_rfl) ?_; try simp only [thenA_n]) | (refine wOs fun K hK => ?_; simp [g4, b4, g2, g7, g10, g11, g12, b7, hlt]) | (refine wQs fun K hK => ?_; simp [g4, b4, g2, g7, g10, g11, g12, b7, hlt]) | (refine CallK_plain ?_; simp [g4, b4, g2, g7, g10, g11, g12, b7, hlt]) | (refine CallQ_plain ?_; simp [g4, b4, g2, g7, g10, g11, g12, b7, hlt]) | (refine wRet ?_; try simp) | (refine wCond ?_; simp [g4, b4, g2, g7, g10, g11, g12, b7, hlt]) | (refine wBlock ?_) | (refine wScope ?_) | (refine wExit ?_; try simp) | (refine wSkip ?_; try simp) | (refine wOn ?_; try simp only [thenA_n]) | (refine wQn ?_; try simp only [thenA_n]) | (refine CallE.pure (h1) rfl ?_) | (refine CallE.lent (h1) rfl ?_) | (refine CallF.pure (h1) rfl ?_) | (refine CallF.lent (h1) rfl ?_) | (refine CallE.own (h1) ?_)
    all_goals apply hr
    all_goals simp [Try.f43]
end Go.Proofs.Ytefhcofecdecgaa
