/- Closures handed in: what is kept of a list of votes. -/
import Derived.Test.YtefhcofecdecgaaWA
import Derived.Test.YtefhcofecdecgaaQA
namespace Go.Proofs.Ytefhcofecdecgaa
set_option linter.unusedSimpArgs false
set_option linter.unusedVariables false
open Go Go.Av
attribute [local simp] Try.T1 Try.T2 Try.T3 Try.T4 Try.T5 Try.T9 Try.T12 Try.T21 Try.T23 Try.T24 Try.T26 Try.T27 Try.T29 Try.T30 Try.T31 Try.T32 Try.T33 Try.T34 Try.T35 Try.T37 Try.T38 Try.T39 Try.T40 Try.T41 Try.T42 Try.T43 Try.T44 Try.T45 Try.T46 Try.T47 Try.T48 Try.T49 Try.T51 Try.T52 Try.T53 Try.T55 Try.T57 Try.T58 Try.T59 Try.T60 Try.T61 Try.T62 Try.T63 Try.T64 Try.T65 Try.T66 Try.T67 Try.T69 Try.T71 Try.T72 Try.T73 Try.T74 Try.T75 Try.T76 Try.T77 Try.T78 Try.T79 Try.T80 Try.T82 Try.T83 Try.T84 Try.T85 Try.T86 Try.T87 Try.T88 Try.T89 Try.T91 Try.T92 Try.T94 Try.T95 Try.T96 Try.T97 Try.T98 Try.T99 Try.T100 Try.T101 Try.T102 Try.T103 Try.T104 Try.T105 Try.T106 Try.T107 Try.T109 Try.T110 Try.T111 Try.T112 Try.T113 Try.T114 Try.T115 Try.T116 Try.T118 Try.T119 Try.T121 Try.T122 Try.T124 Try.T125 Try.T127 Try.T128 Try.T130 Try.T132 Try.T133 Try.T135 Try.T136 Try.T137 Try.T139 Try.T141 Try.T142 Try.T143 Try.T145 Try.T147 Try.T149 Try.T150 Try.T152 Try.T154 Try.T155 Try.T156 Try.T157 Try.T158 Try.T159 Try.T160 Try.T161 Try.T162 Try.T163 Try.T164 Try.T165 Try.T166 Try.T167 Try.T168 Try.T170 Try.T172 Try.T173 Try.T174 Try.T175 Try.T176 Try.T177 Try.T178 Try.T179 Try.T180 Try.T181 Try.T182 Try.T183 Try.T184 Try.T185 Try.T186 Try.T187 Try.T188 Try.T190 Try.T191 Try.T192 Try.T193 Try.T194 Try.T195 Try.T196 Try.T198 Try.T199 Try.T200 Try.T202 Try.T203 Try.T204 Try.T205 Try.T206 Try.T207 Try.T208 Try.T209 Try.T210 Try.T211 Try.T212 Try.T218 Try.T219 Try.T222
attribute [local irreducible] Go.Av.CallK Go.Av.CallE Go.Av.CallQ Go.Av.CallF Go.Av.Con

theorem backs1_con (x v : Vt) : Con Try.prog 72 [.p (.agg x.cells), .ptr 1024 0] [.box 37 (v.cells.map .p)] (.ret (.p (B (cause x v))) [] [.box 37 (v.cells.map .p)]) := by
  have h := sameCause_con x v
  generalize cause x v = z at h
  obtain ⟨a0, a1, a2, a3, a4, a5, a6⟩ := x
  obtain ⟨b0, b1, b2, b3, b4, b5, b6⟩ := v
  simp only [Vt.cells, List.map_cons, List.map_nil] at h ⊢
  refine wBodyG Try.tab Try.mixed Try.func72 rfl rfl Try.ntmps72 (by simp) (by simp) fun Q hr hn hp => ?_
  repeat' first | (refine hK _ ?_; clear hK) | (refine hK _ _ ?_; clear hK) | (clear hK; refine hK _ ?_; clear hK) | (clear hK; clear hK; refine hK _ ?_; clear hK) | (clear hK; clear hK; clear hK; refine hK _ ?_; clear hK) | (clear hK; clear hK; clear hK; clear hK; refine hK _ ?_; clear hK) | (refine wSeq fun K hK => ?_) | (refine wReg ?_; simp only [List.map_cons, List.map_nil, strip]) | (refine wDrwQ rfl (by kernel_rfl) ?_; simp only [List.map_cons, List.map_nil, strip]) | (refine wDrwI ?_; simp only [List.map_cons, List.map_nil, strip]) | (refine wDrw (by kernel_rfl) ?_; simp only [List.map_cons, List.map_nil, strip]) | (refine wIs fun K hK => ?_; simp) | (refine wIn ?_; refine And.intro (by kernel_rfl) ?_; try simp only [thenA_n]) | (refine wOs fun K hK => ?_; simp) | (refine wQs fun K hK => ?_; simp) | (refine CallK_plain ?_; simp) | (refine CallQ_plain ?_; simp) | (refine wRet ?_; try simp) | (refine wCond ?_; simp) | (refine wBlock ?_) | (refine wScope ?_) | (refine wExit ?_; try simp) | (refine wSkip ?_; try simp) | (refine wOn ?_; try simp only [thenA_n]) | (refine wQn ?_; try simp only [thenA_n]) | (refine CallE.pure (h) rfl ?_) | (refine CallE.lent (h) rfl ?_) | (refine CallF.pure (h) rfl ?_) | (refine CallF.lent (h) rfl ?_) | (refine CallE.own (h) ?_)
  all_goals apply hr
  all_goals refine ⟨[], by simp, by simp, ?_⟩
  all_goals simp [Try.f72, outR, outB, renB]

def vts (l : List Vt) : List (List PV) := l.map Vt.cells
@[simp] theorem vts_len (l : List Vt) : (vts l).length = l.length := by simp [vts]
@[simp] theorem vts_getElem (l : List Vt) (k : Nat) (h : k < (vts l).length) : (vts l)[k] = [I (l[k]'(by simpa using h)).f, I (l[k]'(by simpa using h)).r, I (l[k]'(by simpa using h)).e, I (l[k]'(by simpa using h)).le, I (l[k]'(by simpa using h)).ln, I (l[k]'(by simpa using h)).c, I (l[k]'(by simpa using h)).m] := by simp [vts, Vt.cells]
theorem vts_snoc (l : List Vt) (v : Vt) : vts l ++ [[I v.f, I v.r, I v.e, I v.le, I v.ln, I v.c, I v.m]] = vts (l ++ [v]) := by simp [vts, Vt.cells]
def kept (p : Vt → Bool) (l : List Vt) : List Vt := l.filter p
theorem kept_snoc (p : Vt → Bool) (l : List Vt) (k : Nat) (h : k < l.length) : kept p (l.take (k + 1)) = if p l[k] = true then kept p (l.take k) ++ [l[k]] else kept p (l.take k) := by
  rw [take_snoc _ k h]; unfold kept
  rw [List.filter_append]
  by_cases g : p l[k] = true
  · rw [if_pos g]; simp only [List.filter, g]
  · rw [if_neg g]; rw [Bool.not_eq_true] at g; simp only [List.filter, g, List.append_nil]
theorem kept_len (p : Vt → Bool) (l : List Vt) : (kept p l).length ≤ l.length := by simp [kept, List.length_filter_le]

theorem sifted_con (l : List Vt) (g : Nat) (v : Vt) (p : Vt → Bool) (hl : l.length ≤ 1000000) (hcl : ∀ x : Vt, Con Try.prog g [.p (.agg x.cells), .ptr 1024 0] [.box 37 (v.cells.map .p)] (.ret (.p (B (p x))) [] [.box 37 (v.cells.map .p)])) :
    Con Try.prog 69 [.p (.sl 7 (vts l)), .clo g [.box 1024]] [.box 37 (v.cells.map .p)] (.ret (.row 2048) [.row 37 7 (vts (kept p l))] [.box 37 (v.cells.map .p)]) := by
  obtain ⟨v0, v1, v2, v3, v4, v5, v6⟩ := v
  simp only [Vt.cells, List.map_cons, List.map_nil] at hcl ⊢
  refine wBodyG Try.tab Try.mixed Try.func69 rfl rfl Try.ntmps69 (by simp) (by simp) fun Q hr hn hp => ?_
  repeat' first | (refine hK _ ?_; clear hK) | (refine hK _ _ ?_; clear hK) | (clear hK; refine hK _ ?_; clear hK) | (clear hK; clear hK; refine hK _ ?_; clear hK) | (clear hK; clear hK; clear hK; refine hK _ ?_; clear hK) | (clear hK; clear hK; clear hK; clear hK; refine hK _ ?_; clear hK) | (refine wSeq fun K hK => ?_) | (refine wReg ?_; simp only [List.map_cons, List.map_nil, strip]) | (refine wDrwQ rfl (by kernel_rfl) ?_; simp only [List.map_cons, List.map_nil, strip]) | (refine wDrwI ?_; simp only [List.map_cons, List.map_nil, strip]) | (refine wDrw (by kernel_rfl) ?_; simp only [List.map_cons, List.map_nil, strip]) | (refine wIs fun K hK => ?_; simp) | (refine wIn ?_; refine And.intro (by kernel_rfl) ?_; try simp only [thenA_n]) | (refine wOs fun K hK => ?_; simp) | (refine wQs fun K hK => ?_; simp) | (refine CallK_plain ?_; simp) | (refine CallQ_plain ?_; simp) | (refine wRet ?_; try simp) | (refine wCond ?_; simp) | (refine wBlock ?_) | (refine wScope ?_) | (refine wExit ?_; try simp) | (refine wSkip ?_; try simp) | (refine wOn ?_; try simp only [thenA_n]) | (refine wQn ?_; try simp only [thenA_n])
  refine wLoopG [.row 5 37 7] (fun N st => ∃ k, k + N = l.length ∧ st.s 1 = .clo g [.box 1024] ∧ st.s 5 = .row 5 ∧ st.s 8 = .p (.sl 7 (vts l)) ∧ st.s 9 = .p (I l.length) ∧ st.s 10 = .p (I k) ∧ st.b 1024 = some (.box 37 [.p (I v0), .p (I v1), .p (I v2), .p (I v3), .p (I v4), .p (I v5), .p (I v6)]) ∧
    st.b 5 = some (.row 37 7 (vts (kept p (l.take k))))) l.length ⟨0, by simp [kept, vts]⟩ fun K N st hL ⟨k, hk, g1, g5, g8, g9, g10, b1, b5⟩ => ?_
  by_cases hlt : k < l.length
  · have hw := wrapS k _ hlt (by omega)
    have hln : (kept p (l.take k)).length ≤ k := Nat.le_trans (kept_len _ _) (by simp; omega)
    have hx := hcl l[k]
    by_cases o : p l[k] = true
    · rw [o] at hx
      repeat' first | (refine CallK_gen [1024] hx (by decide) (by decide) (by simp [blksOf, inN, pos, renB, b1]) (by simp [argsG, argG, ren0, inN, pos]) ⟨[], by simp, by simp, ?_⟩; simp [lv, ouN, kpI, kpR, pos, ren, ren0, renB, g1, g5, g8, g9, g10, b1, b5]) | (refine And.intro (by omega) ?_) | (refine hK _ ?_; clear hK) | (refine hK _ _ ?_; clear hK) | (clear hK; refine hK _ ?_; clear hK) | (clear hK; clear hK; refine hK _ ?_; clear hK) | (clear hK; clear hK; clear hK; refine hK _ ?_; clear hK) | (clear hK; clear hK; clear hK; clear hK; refine hK _ ?_; clear hK) | (refine wSeq fun K hK => ?_) | (refine wReg ?_; simp only [List.map_cons, List.map_nil, strip]) | (refine wDrwQ rfl (by kernel_rfl) ?_; simp only [List.map_cons, List.map_nil, strip]) | (refine wDrwI ?_; simp only [List.map_cons, List.map_nil, strip]) | (refine wDrw (by kernel_rfl) ?_; simp only [List.map_cons, List.map_nil, strip]) | (refine wIs fun K hK => ?_; simp [g1, g5, g8, g9, g10, b1, b5, hlt, hw]) | (refine wIn ?_; refine And.intro (by kernel_rfl) ?_; try simp only [thenA_n]) | (refine wOs fun K hK => ?_; simp [g1, g5, g8, g9, g10, b1, b5, hlt, hw]) | (refine wQs fun K hK => ?_; simp [g1, g5, g8, g9, g10, b1, b5, hlt, hw]) | (refine CallK_plain ?_; simp [g1, g5, g8, g9, g10, b1, b5, hlt, hw]) | (refine CallQ_plain ?_; simp [g1, g5, g8, g9, g10, b1, b5, hlt, hw]) | (refine wRet ?_; try simp) | (refine wCond ?_; simp [g1, g5, g8, g9, g10, b1, b5, hlt, hw]) | (refine wBlock ?_) | (refine wScope ?_) | (refine wExit ?_; try simp) | (refine wSkip ?_; try simp) | (refine wOn ?_; try simp only [thenA_n]) | (refine wQn ?_; try simp only [thenA_n])
      refine hL _ (N - 1) (by omega) ⟨k + 1, by omega, ?_⟩
      simp [lv, ouN, kpI, kpR, pos, ren, ren0, renB, renC, renCs, g1, g5, g8, g9, g10, b1, b5, hw]
      rw [vts_snoc, kept_snoc p l k hlt, if_pos o]
    · have o' := o
      rw [Bool.not_eq_true] at o'
      rw [o'] at hx
      repeat' first | (refine CallK_gen [1024] hx (by decide) (by decide) (by simp [blksOf, inN, pos, renB, b1]) (by simp [argsG, argG, ren0, inN, pos]) ⟨[], by simp, by simp, ?_⟩; simp [lv, ouN, kpI, kpR, pos, ren, ren0, renB, g1, g5, g8, g9, g10, b1, b5]) | (refine And.intro (by omega) ?_) | (refine hK _ ?_; clear hK) | (refine hK _ _ ?_; clear hK) | (clear hK; refine hK _ ?_; clear hK) | (clear hK; clear hK; refine hK _ ?_; clear hK) | (clear hK; clear hK; clear hK; refine hK _ ?_; clear hK) | (clear hK; clear hK; clear hK; clear hK; refine hK _ ?_; clear hK) | (refine wSeq fun K hK => ?_) | (refine wReg ?_; simp only [List.map_cons, List.map_nil, strip]) | (refine wDrwQ rfl (by kernel_rfl) ?_; simp only [List.map_cons, List.map_nil, strip]) | (refine wDrwI ?_; simp only [List.map_cons, List.map_nil, strip]) | (refine wDrw (by kernel_rfl) ?_; simp only [List.map_cons, List.map_nil, strip]) | (refine wIs fun K hK => ?_; simp [g1, g5, g8, g9, g10, b1, b5, hlt, hw]) | (refine wIn ?_; refine And.intro (by kernel_rfl) ?_; try simp only [thenA_n]) | (refine wOs fun K hK => ?_; simp [g1, g5, g8, g9, g10, b1, b5, hlt, hw]) | (refine wQs fun K hK => ?_; simp [g1, g5, g8, g9, g10, b1, b5, hlt, hw]) | (refine CallK_plain ?_; simp [g1, g5, g8, g9, g10, b1, b5, hlt, hw]) | (refine CallQ_plain ?_; simp [g1, g5, g8, g9, g10, b1, b5, hlt, hw]) | (refine wRet ?_; try simp) | (refine wCond ?_; simp [g1, g5, g8, g9, g10, b1, b5, hlt, hw]) | (refine wBlock ?_) | (refine wScope ?_) | (refine wExit ?_; try simp) | (refine wSkip ?_; try simp) | (refine wOn ?_; try simp only [thenA_n]) | (refine wQn ?_; try simp only [thenA_n])
      refine hL _ (N - 1) (by omega) ⟨k + 1, by omega, ?_⟩
      simp [lv, ouN, kpI, kpR, pos, ren, ren0, renB, renC, renCs, g1, g5, g8, g9, g10, b1, b5, hw]
      rw [kept_snoc p l k hlt, if_neg o]
  · rw [List.take_of_length_le (by omega)] at b5
    repeat' first | (refine hK _ ?_; clear hK) | (refine hK _ _ ?_; clear hK) | (clear hK; refine hK _ ?_; clear hK) | (clear hK; clear hK; refine hK _ ?_; clear hK) | (clear hK; clear hK; clear hK; refine hK _ ?_; clear hK) | (clear hK; clear hK; clear hK; clear hK; refine hK _ ?_; clear hK) | (refine wSeq fun K hK => ?_) | (refine wReg ?_; simp only [List.map_cons, List.map_nil, strip]) | (refine wDrwQ rfl (by kernel_rfl) ?_; simp only [List.map_cons, List.map_nil, strip]) | (refine wDrwI ?_; simp only [List.map_cons, List.map_nil, strip]) | (refine wDrw (by kernel_rfl) ?_; simp only [List.map_cons, List.map_nil, strip]) | (refine wIs fun K hK => ?_; simp [g1, g5, g8, g9, g10, b1, b5, hlt]) | (refine wIn ?_; refine And.intro (by kernel_rfl) ?_; try simp only [thenA_n]) | (refine wOs fun K hK => ?_; simp [g1, g5, g8, g9, g10, b1, b5, hlt]) | (refine wQs fun K hK => ?_; simp [g1, g5, g8, g9, g10, b1, b5, hlt]) | (refine CallK_plain ?_; simp [g1, g5, g8, g9, g10, b1, b5, hlt]) | (refine CallQ_plain ?_; simp [g1, g5, g8, g9, g10, b1, b5, hlt]) | (refine wRet ?_; try simp) | (refine wCond ?_; simp [g1, g5, g8, g9, g10, b1, b5, hlt]) | (refine wBlock ?_) | (refine wScope ?_) | (refine wExit ?_; try simp) | (refine wSkip ?_; try simp) | (refine wOn ?_; try simp only [thenA_n]) | (refine wQn ?_; try simp only [thenA_n])
    apply hr
    refine ⟨[5], by simp, by simp, ?_⟩
    simp [Try.f69, outR, outB, renB, gaN, pos, g5, b5, b1, ren0]
end Go.Proofs.Ytefhcofecdecgaa
