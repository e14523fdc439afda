/- Several configs; what is too far; any two quorums meet. -/
import Derived.Test.YtefhcofecdecgaaQF
namespace Go.Proofs.Ytefhcofecdecgaa
set_option linter.unusedSimpArgs false
set_option linter.unusedVariables false
open Go Go.Av
attribute [local simp] Try.T1 Try.T2 Try.T3 Try.T4 Try.T5 Try.T9 Try.T12 Try.T21 Try.T23 Try.T24 Try.T26 Try.T27 Try.T29 Try.T30 Try.T31 Try.T32 Try.T33 Try.T34 Try.T35 Try.T37 Try.T38 Try.T39 Try.T40 Try.T41 Try.T42 Try.T43 Try.T44 Try.T45 Try.T46 Try.T47 Try.T48 Try.T49 Try.T51 Try.T52 Try.T53 Try.T55 Try.T57 Try.T58 Try.T59 Try.T60 Try.T61 Try.T62 Try.T63 Try.T64 Try.T65 Try.T66 Try.T67 Try.T69 Try.T71 Try.T72 Try.T73 Try.T74 Try.T75 Try.T76 Try.T77 Try.T78 Try.T79 Try.T80 Try.T82 Try.T83 Try.T84 Try.T85 Try.T86 Try.T87 Try.T88 Try.T89 Try.T91 Try.T92 Try.T94 Try.T95 Try.T96 Try.T97 Try.T98 Try.T99 Try.T100 Try.T101 Try.T102 Try.T103 Try.T104 Try.T105 Try.T106 Try.T107 Try.T109 Try.T110 Try.T111 Try.T112 Try.T113 Try.T114 Try.T115 Try.T116 Try.T118 Try.T119 Try.T121 Try.T122 Try.T124 Try.T125 Try.T127 Try.T128 Try.T130 Try.T132 Try.T133 Try.T135 Try.T136 Try.T137 Try.T139 Try.T141 Try.T142 Try.T143 Try.T145 Try.T147 Try.T149 Try.T150 Try.T152 Try.T154 Try.T155 Try.T156 Try.T157 Try.T158 Try.T159 Try.T160 Try.T161 Try.T162 Try.T163 Try.T164 Try.T165 Try.T166 Try.T167 Try.T168 Try.T170 Try.T172 Try.T173 Try.T174 Try.T175 Try.T176 Try.T177 Try.T178 Try.T179 Try.T180 Try.T181 Try.T182 Try.T183 Try.T184 Try.T185 Try.T186 Try.T187 Try.T188 Try.T190 Try.T191 Try.T192 Try.T193 Try.T194 Try.T195 Try.T196 Try.T198 Try.T199 Try.T200 Try.T202 Try.T203 Try.T204 Try.T205 Try.T206 Try.T207 Try.T208 Try.T209 Try.T210 Try.T211 Try.T212 Try.T218 Try.T219 Try.T222
attribute [local irreducible] Go.Av.CallK Go.Av.CallE Go.Av.CallQ Go.Av.CallF Go.Av.Con

def mx (n : Int) : List (List Int) → Int
  | [] => n
  | s :: l => mx (if n < s.length then s.length else n) l
theorem mx_le : ∀ (l : List (List Int)) (n : Int), n ≤ mx n l ∧ ∀ s ∈ l, (s.length : Int) ≤ mx n l
  | [], n => by simp [mx]
  | s :: l, n => by
    by_cases g : n < s.length
    · obtain ⟨h1, h2⟩ := mx_le l s.length
      simp only [mx, if_pos g]
      refine ⟨by omega, fun x hx => ?_⟩
      rcases List.mem_cons.1 hx with rfl | hx
      · exact h1
      · exact h2 x hx
    · obtain ⟨h1, h2⟩ := mx_le l n
      simp only [mx, if_neg g]
      refine ⟨h1, fun x hx => ?_⟩
      rcases List.mem_cons.1 hx with rfl | hx
      · omega
      · exact h2 x hx
def lists (l : List (List Int)) : List (List PV) := l.map fun s => [.sl 1 (ints s)]
@[simp] theorem lists_len (l : List (List Int)) : (lists l).length = l.length := by simp [lists]
@[simp] theorem lists_getElem (l : List (List Int)) (k : Nat) (h : k < (lists l).length) : (lists l)[k] = [.sl 1 (ints (l[k]'(by simpa using h)))] := by simp [lists]
def cfs (l : List Cf) : List (List PV) := l.map Cf.cells
@[simp] theorem cfs_len (l : List Cf) : (cfs l).length = l.length := by simp [cfs]
@[simp] theorem cfs_getElem (l : List Cf) (k : Nat) (h : k < (cfs l).length) : (cfs l)[k] = [I (l[k]'(by simpa using h)).ep, I (l[k]'(by simpa using h)).n, I (l[k]'(by simpa using h)).kind, .sl 4 (mbs (l[k]'(by simpa using h)).ms)] := by simp [cfs, Cf.cells]
def allQ (l : List Cf) (set : List Int) : Bool := l.all (fun c => isQ c set) && decide (0 < l.length)

theorem all_con (l : List Cf) (set : List Int) (hl : l.length ≤ 1000) (hm : ∀ c ∈ l, c.ms.length ≤ 1000000) : ACon Try.prog 74 [.p (.sl 4 (cfs l)), .p (.sl 1 (ints set))] (.p (B (allQ l set))) := by
  refine wBody Try.tab Try.mixed Try.func74 rfl rfl Try.ntmps74 (by simp) (by simp) fun Q hr hn => ?_
  repeat' first | (refine hK _ ?_; clear hK) | (refine hK _ _ ?_; clear hK) | (clear hK; refine hK _ ?_; clear hK) | (clear hK; clear hK; refine hK _ ?_; clear hK) | (clear hK; clear hK; clear hK; refine hK _ ?_; clear hK) | (clear hK; clear hK; clear hK; clear hK; refine hK _ ?_; clear hK) | (refine wSeq fun K hK => ?_) | (refine wReg ?_; simp only [List.map_cons, List.map_nil, strip]) | (refine wDrwQ rfl (by kernel_rfl) ?_; simp only [List.map_cons, List.map_nil, strip]) | (refine wDrwI ?_; simp only [List.map_cons, List.map_nil, strip]) | (refine wDrw (by kernel_rfl) ?_; simp only [List.map_cons, List.map_nil, strip]) | (refine wIs fun K hK => ?_; simp) | (refine wIn ?_; refine And.intro (by kernel_rfl) ?_; try simp only [thenA_n]) | (refine wOs fun K hK => ?_; simp) | (refine wQs fun K hK => ?_; simp) | (refine CallK_plain ?_; simp) | (refine CallQ_plain ?_; simp) | (refine wRet ?_; try simp) | (refine wCond ?_; simp) | (refine wBlock ?_) | (refine wScope ?_) | (refine wExit ?_; try simp) | (refine wSkip ?_; try simp) | (refine wOn ?_; try simp only [thenA_n]) | (refine wQn ?_; try simp only [thenA_n])
  refine wLoop (fun N st => ∃ (k : Nat), k + N = l.length ∧ st.s 0 = .p (.sl 4 (cfs l)) ∧ st.s 1 = .p (.sl 1 (ints set)) ∧ st.s 7 = .p (.sl 4 (cfs l)) ∧ st.s 8 = .p (I l.length) ∧ st.s 9 = .p (I k) ∧ (l.drop k).all (fun c => isQ c set) = l.all (fun c => isQ c set)) l.length ⟨0, by simp⟩ fun K N st hL ⟨k, hk, h0, h1, h7, h8, h9, hi⟩ => ?_
  by_cases hlt : k < l.length
  · have hw := wrapS k _ hlt (by omega)
    rw [List.drop_eq_getElem_cons hlt, List.all_cons] at hi
    have hx := is_con l[k] set (hm _ (List.getElem_mem hlt))
    simp only [Cf.cells] at hx
    cases hz : isQ l[k] set with
    | true =>
      rw [hz] at hx hi
      repeat' first | (refine hK _ ?_; clear hK) | (refine hK _ _ ?_; clear hK) | (clear hK; refine hK _ ?_; clear hK) | (clear hK; clear hK; refine hK _ ?_; clear hK) | (clear hK; clear hK; clear hK; refine hK _ ?_; clear hK) | (clear hK; clear hK; clear hK; clear hK; refine hK _ ?_; clear hK) | (refine wSeq fun K hK => ?_) | (refine wReg ?_; simp only [List.map_cons, List.map_nil, strip]) | (refine wDrwQ rfl (by kernel_rfl) ?_; simp only [List.map_cons, List.map_nil, strip]) | (refine wDrwI ?_; simp only [List.map_cons, List.map_nil, strip]) | (refine wDrw (by kernel_rfl) ?_; simp only [List.map_cons, List.map_nil, strip]) | (refine wIs fun K hK => ?_; simp [h0, h1, h7, h8, h9, hlt, hw]) | (refine wIn ?_; refine And.intro (by kernel_rfl) ?_; try simp only [thenA_n]) | (refine wOs fun K hK => ?_; simp [h0, h1, h7, h8, h9, hlt, hw]) | (refine wQs fun K hK => ?_; simp [h0, h1, h7, h8, h9, hlt, hw]) | (refine CallK_plain ?_; simp [h0, h1, h7, h8, h9, hlt, hw]) | (refine CallQ_plain ?_; simp [h0, h1, h7, h8, h9, hlt, hw]) | (refine wRet ?_; try simp) | (refine wCond ?_; simp [h0, h1, h7, h8, h9, hlt, hw]) | (refine wBlock ?_) | (refine wScope ?_) | (refine wExit ?_; try simp) | (refine wSkip ?_; try simp) | (refine wOn ?_; try simp only [thenA_n]) | (refine wQn ?_; try simp only [thenA_n]) | (refine CallE.pure (hx) rfl ?_) | (refine CallE.lent (hx) rfl ?_) | (refine CallF.pure (hx) rfl ?_) | (refine CallF.lent (hx) rfl ?_) | (refine CallE.own (hx) ?_)
      refine hL _ (N - 1) (by omega) ⟨k + 1, by omega, ?_⟩
      rw [Bool.true_and] at hi
      simp only [h0, h1, h7, h8, hw, hi]
      simp [h0, h1, h7, h8, hw, hi]
    | false =>
      rw [hz] at hx hi
      rw [Bool.false_and] at hi
      repeat' first | (refine hK _ ?_; clear hK) | (refine hK _ _ ?_; clear hK) | (clear hK; refine hK _ ?_; clear hK) | (clear hK; clear hK; refine hK _ ?_; clear hK) | (clear hK; clear hK; clear hK; refine hK _ ?_; clear hK) | (clear hK; clear hK; clear hK; clear hK; refine hK _ ?_; clear hK) | (refine wSeq fun K hK => ?_) | (refine wReg ?_; simp only [List.map_cons, List.map_nil, strip]) | (refine wDrwQ rfl (by kernel_rfl) ?_; simp only [List.map_cons, List.map_nil, strip]) | (refine wDrwI ?_; simp only [List.map_cons, List.map_nil, strip]) | (refine wDrw (by kernel_rfl) ?_; simp only [List.map_cons, List.map_nil, strip]) | (refine wIs fun K hK => ?_; simp [h0, h1, h7, h8, h9, hlt, hw]) | (refine wIn ?_; refine And.intro (by kernel_rfl) ?_; try simp only [thenA_n]) | (refine wOs fun K hK => ?_; simp [h0, h1, h7, h8, h9, hlt, hw]) | (refine wQs fun K hK => ?_; simp [h0, h1, h7, h8, h9, hlt, hw]) | (refine CallK_plain ?_; simp [h0, h1, h7, h8, h9, hlt, hw]) | (refine CallQ_plain ?_; simp [h0, h1, h7, h8, h9, hlt, hw]) | (refine wRet ?_; try simp) | (refine wCond ?_; simp [h0, h1, h7, h8, h9, hlt, hw]) | (refine wBlock ?_) | (refine wScope ?_) | (refine wExit ?_; try simp) | (refine wSkip ?_; try simp) | (refine wOn ?_; try simp only [thenA_n]) | (refine wQn ?_; try simp only [thenA_n]) | (refine CallE.pure (hx) rfl ?_) | (refine CallE.lent (hx) rfl ?_) | (refine CallF.pure (hx) rfl ?_) | (refine CallF.lent (hx) rfl ?_) | (refine CallE.own (hx) ?_)
      all_goals apply hr
      all_goals simp only [allQ, ← hi]
      all_goals simp [Try.f74]
  · rw [List.drop_of_length_le (by omega), List.all_nil] at hi
    repeat' first | (refine hK _ ?_; clear hK) | (refine hK _ _ ?_; clear hK) | (clear hK; refine hK _ ?_; clear hK) | (clear hK; clear hK; refine hK _ ?_; clear hK) | (clear hK; clear hK; clear hK; refine hK _ ?_; clear hK) | (clear hK; clear hK; clear hK; clear hK; refine hK _ ?_; clear hK) | (refine wSeq fun K hK => ?_) | (refine wReg ?_; simp only [List.map_cons, List.map_nil, strip]) | (refine wDrwQ rfl (by kernel_rfl) ?_; simp only [List.map_cons, List.map_nil, strip]) | (refine wDrwI ?_; simp only [List.map_cons, List.map_nil, strip]) | (refine wDrw (by kernel_rfl) ?_; simp only [List.map_cons, List.map_nil, strip]) | (refine wIs fun K hK => ?_; simp [h0, h1, h7, h8, h9, hlt]) | (refine wIn ?_; refine And.intro (by kernel_rfl) ?_; try simp only [thenA_n]) | (refine wOs fun K hK => ?_; simp [h0, h1, h7, h8, h9, hlt]) | (refine wQs fun K hK => ?_; simp [h0, h1, h7, h8, h9, hlt]) | (refine CallK_plain ?_; simp [h0, h1, h7, h8, h9, hlt]) | (refine CallQ_plain ?_; simp [h0, h1, h7, h8, h9, hlt]) | (refine wRet ?_; try simp) | (refine wCond ?_; simp [h0, h1, h7, h8, h9, hlt]) | (refine wBlock ?_) | (refine wScope ?_) | (refine wExit ?_; try simp) | (refine wSkip ?_; try simp) | (refine wOn ?_; try simp only [thenA_n]) | (refine wQn ?_; try simp only [thenA_n])
    apply hr
    simp only [allQ, ← hi]
    simp [Try.f74]

theorem all05_con (l : List Cf) (set : List Int) (hl : l.length ≤ 1000) (hm : ∀ c ∈ l, c.ms.length ≤ 1000000) : ACon Try.prog 106 [.p (.sl 4 (cfs l)), .p (.sl 1 (ints set))] (.p (B (allQ l set))) := by
  refine wBody Try.tab Try.mixed Try.func106 rfl rfl Try.ntmps106 (by simp) (by simp) fun Q hr hn => ?_
  repeat' first | (refine hK _ ?_; clear hK) | (refine hK _ _ ?_; clear hK) | (clear hK; refine hK _ ?_; clear hK) | (clear hK; clear hK; refine hK _ ?_; clear hK) | (clear hK; clear hK; clear hK; refine hK _ ?_; clear hK) | (clear hK; clear hK; clear hK; clear hK; refine hK _ ?_; clear hK) | (refine wSeq fun K hK => ?_) | (refine wReg ?_; simp only [List.map_cons, List.map_nil, strip]) | (refine wDrwQ rfl (by kernel_rfl) ?_; simp only [List.map_cons, List.map_nil, strip]) | (refine wDrwI ?_; simp only [List.map_cons, List.map_nil, strip]) | (refine wDrw (by kernel_rfl) ?_; simp only [List.map_cons, List.map_nil, strip]) | (refine wIs fun K hK => ?_; simp) | (refine wIn ?_; refine And.intro (by kernel_rfl) ?_; try simp only [thenA_n]) | (refine wOs fun K hK => ?_; simp) | (refine wQs fun K hK => ?_; simp) | (refine CallK_plain ?_; simp) | (refine CallQ_plain ?_; simp) | (refine wRet ?_; try simp) | (refine wCond ?_; simp) | (refine wBlock ?_) | (refine wScope ?_) | (refine wExit ?_; try simp) | (refine wSkip ?_; try simp) | (refine wOn ?_; try simp only [thenA_n]) | (refine wQn ?_; try simp only [thenA_n])
  refine wLoop (fun N st => ∃ (k : Nat), k + N = l.length ∧ st.s 0 = .p (.sl 4 (cfs l)) ∧ st.s 1 = .p (.sl 1 (ints set)) ∧ st.s 7 = .p (.sl 4 (cfs l)) ∧ st.s 8 = .p (I l.length) ∧ st.s 9 = .p (I k) ∧ (l.drop k).all (fun c => isQ c set) = l.all (fun c => isQ c set)) l.length ⟨0, by simp⟩ fun K N st hL ⟨k, hk, h0, h1, h7, h8, h9, hi⟩ => ?_
  by_cases hlt : k < l.length
  · have hw := wrapS k _ hlt (by omega)
    rw [List.drop_eq_getElem_cons hlt, List.all_cons] at hi
    have hx := is05_con l[k] set (hm _ (List.getElem_mem hlt))
    simp only [Cf.cells] at hx
    cases hz : isQ l[k] set with
    | true =>
      rw [hz] at hx hi
      repeat' first | (refine hK _ ?_; clear hK) | (refine hK _ _ ?_; clear hK) | (clear hK; refine hK _ ?_; clear hK) | (clear hK; clear hK; refine hK _ ?_; clear hK) | (clear hK; clear hK; clear hK; refine hK _ ?_; clear hK) | (clear hK; clear hK; clear hK; clear hK; refine hK _ ?_; clear hK) | (refine wSeq fun K hK => ?_) | (refine wReg ?_; simp only [List.map_cons, List.map_nil, strip]) | (refine wDrwQ rfl (by kernel_rfl) ?_; simp only [List.map_cons, List.map_nil, strip]) | (refine wDrwI ?_; simp only [List.map_cons, List.map_nil, strip]) | (refine wDrw (by kernel_rfl) ?_; simp only [List.map_cons, List.map_nil, strip]) | (refine wIs fun K hK => ?_; simp [h0, h1, h7, h8, h9, hlt, hw]) | (refine wIn ?_; refine And.intro (by kernel_rfl) ?_; try simp only [thenA_n]) | (refine wOs fun K hK => ?_; simp [h0, h1, h7, h8, h9, hlt, hw]) | (refine wQs fun K hK => ?_; simp [h0, h1, h7, h8, h9, hlt, hw]) | (refine CallK_plain ?_; simp [h0, h1, h7, h8, h9, hlt, hw]) | (refine CallQ_plain ?_; simp [h0, h1, h7, h8, h9, hlt, hw]) | (refine wRet ?_; try simp) | (refine wCond ?_; simp [h0, h1, h7, h8, h9, hlt, hw]) | (refine wBlock ?_) | (refine wScope ?_) | (refine wExit ?_; try simp) | (refine wSkip ?_; try simp) | (refine wOn ?_; try simp only [thenA_n]) | (refine wQn ?_; try simp only [thenA_n]) | (refine CallE.pure (hx) rfl ?_) | (refine CallE.lent (hx) rfl ?_) | (refine CallF.pure (hx) rfl ?_) | (refine CallF.lent (hx) rfl ?_) | (refine CallE.own (hx) ?_)
      refine hL _ (N - 1) (by omega) ⟨k + 1, by omega, ?_⟩
      rw [Bool.true_and] at hi
      simp only [h0, h1, h7, h8, hw, hi]
      simp [h0, h1, h7, h8, hw, hi]
    | false =>
      rw [hz] at hx hi
      rw [Bool.false_and] at hi
      repeat' first | (refine hK _ ?_; clear hK) | (refine hK _ _ ?_; clear hK) | (clear hK; refine hK _ ?_; clear hK) | (clear hK; clear hK; refine hK _ ?_; clear hK) | (clear hK; clear hK; clear hK; refine hK _ ?_; clear hK) | (clear hK; clear hK; clear hK; clear hK; refine hK _ ?_; clear hK) | (refine wSeq fun K hK => ?_) | (refine wReg ?_; simp only [List.map_cons, List.map_nil, strip]) | (refine wDrwQ rfl (by kernel_rfl) ?_; simp only [List.map_cons, List.map_nil, strip]) | (refine wDrwI ?_; simp only [List.map_cons, List.map_nil, strip]) | (refine wDrw (by kernel_rfl) ?_; simp only [List.map_cons, List.map_nil, strip]) | (refine wIs fun K hK => ?_; simp [h0, h1, h7, h8, h9, hlt, hw]) | (refine wIn ?_; refine And.intro (by kernel_rfl) ?_; try simp only [thenA_n]) | (refine wOs fun K hK => ?_; simp [h0, h1, h7, h8, h9, hlt, hw]) | (refine wQs fun K hK => ?_; simp [h0, h1, h7, h8, h9, hlt, hw]) | (refine CallK_plain ?_; simp [h0, h1, h7, h8, h9, hlt, hw]) | (refine CallQ_plain ?_; simp [h0, h1, h7, h8, h9, hlt, hw]) | (refine wRet ?_; try simp) | (refine wCond ?_; simp [h0, h1, h7, h8, h9, hlt, hw]) | (refine wBlock ?_) | (refine wScope ?_) | (refine wExit ?_; try simp) | (refine wSkip ?_; try simp) | (refine wOn ?_; try simp only [thenA_n]) | (refine wQn ?_; try simp only [thenA_n]) | (refine CallE.pure (hx) rfl ?_) | (refine CallE.lent (hx) rfl ?_) | (refine CallF.pure (hx) rfl ?_) | (refine CallF.lent (hx) rfl ?_) | (refine CallE.own (hx) ?_)
      all_goals apply hr
      all_goals simp only [allQ, ← hi]
      all_goals simp [Try.f106]
  · rw [List.drop_of_length_le (by omega), List.all_nil] at hi
    repeat' first | (refine hK _ ?_; clear hK) | (refine hK _ _ ?_; clear hK) | (clear hK; refine hK _ ?_; clear hK) | (clear hK; clear hK; refine hK _ ?_; clear hK) | (clear hK; clear hK; clear hK; refine hK _ ?_; clear hK) | (clear hK; clear hK; clear hK; clear hK; refine hK _ ?_; clear hK) | (refine wSeq fun K hK => ?_) | (refine wReg ?_; simp only [List.map_cons, List.map_nil, strip]) | (refine wDrwQ rfl (by kernel_rfl) ?_; simp only [List.map_cons, List.map_nil, strip]) | (refine wDrwI ?_; simp only [List.map_cons, List.map_nil, strip]) | (refine wDrw (by kernel_rfl) ?_; simp only [List.map_cons, List.map_nil, strip]) | (refine wIs fun K hK => ?_; simp [h0, h1, h7, h8, h9, hlt]) | (refine wIn ?_; refine And.intro (by kernel_rfl) ?_; try simp only [thenA_n]) | (refine wOs fun K hK => ?_; simp [h0, h1, h7, h8, h9, hlt]) | (refine wQs fun K hK => ?_; simp [h0, h1, h7, h8, h9, hlt]) | (refine CallK_plain ?_; simp [h0, h1, h7, h8, h9, hlt]) | (refine CallQ_plain ?_; simp [h0, h1, h7, h8, h9, hlt]) | (refine wRet ?_; try simp) | (refine wCond ?_; simp [h0, h1, h7, h8, h9, hlt]) | (refine wBlock ?_) | (refine wScope ?_) | (refine wExit ?_; try simp) | (refine wSkip ?_; try simp) | (refine wOn ?_; try simp only [thenA_n]) | (refine wQn ?_; try simp only [thenA_n])
    apply hr
    simp only [allQ, ← hi]
    simp [Try.f106]

end Go.Proofs.Ytefhcofecdecgaa
