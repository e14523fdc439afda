/- The law ElectOne. -/
import Derived.Test.YtdacplfmpjhjhaaEBx
import Derived.Test.YtdacplfmpjhjhaaED
import Derived.Test.YtdacplfmpjhjhaaEH0
import Derived.Test.YtdacplfmpjhjhaaQCu
import Derived.Test.YtdacplfmpjhjhaaLP
import Derived.Test.YtdacplfmpjhjhaaAwk2
namespace Go.Proofs.Ytdacplfmpjhjhaa
set_option linter.unusedSimpArgs false
set_option linter.unusedVariables false
open Go Go.Av
attribute [local simp] Try.T1 Try.T2 Try.T3 Try.T4 Try.T5 Try.T9 Try.T12 Try.T21 Try.T22 Try.T24 Try.T26 Try.T27 Try.T28 Try.T29 Try.T30 Try.T31 Try.T32 Try.T33 Try.T34 Try.T36 Try.T37 Try.T38 Try.T39 Try.T40 Try.T41 Try.T42 Try.T43 Try.T45 Try.T46 Try.T47 Try.T49 Try.T51 Try.T52 Try.T53 Try.T54 Try.T55 Try.T56 Try.T57 Try.T58 Try.T59 Try.T60 Try.T61 Try.T63 Try.T65 Try.T66 Try.T67 Try.T68 Try.T69 Try.T70 Try.T71 Try.T72 Try.T73 Try.T75 Try.T76 Try.T77 Try.T78 Try.T79 Try.T80 Try.T82 Try.T83 Try.T84 Try.T85 Try.T86 Try.T87 Try.T88 Try.T89 Try.T91 Try.T92 Try.T93 Try.T94 Try.T95 Try.T96 Try.T97 Try.T98 Try.T99 Try.T100 Try.T101 Try.T102 Try.T103 Try.T104 Try.T106 Try.T107 Try.T108 Try.T109 Try.T110 Try.T111 Try.T112 Try.T114 Try.T115 Try.T116 Try.T118 Try.T119 Try.T121 Try.T122 Try.T124 Try.T125 Try.T127 Try.T128 Try.T130 Try.T132 Try.T133 Try.T135 Try.T136 Try.T137 Try.T139 Try.T141 Try.T142 Try.T143 Try.T145 Try.T147 Try.T149 Try.T150 Try.T152 Try.T154 Try.T155 Try.T156 Try.T157 Try.T158 Try.T159 Try.T160 Try.T161 Try.T162 Try.T163 Try.T164 Try.T165 Try.T166 Try.T167 Try.T168 Try.T170 Try.T172 Try.T173 Try.T174 Try.T175 Try.T176 Try.T177 Try.T178 Try.T179 Try.T180 Try.T181 Try.T182 Try.T183 Try.T184 Try.T185 Try.T186 Try.T187 Try.T188 Try.T190 Try.T191 Try.T192 Try.T193 Try.T194 Try.T195 Try.T196 Try.T198 Try.T199 Try.T200 Try.T202 Try.T203 Try.T204 Try.T205 Try.T206 Try.T207 Try.T208 Try.T209 Try.T210 Try.T211 Try.T212 Try.T218 Try.T219 Try.T222
attribute [local irreducible] Go.Av.CallK Go.Av.CallE Go.Av.CallQ Go.Av.CallF Go.Av.Con

theorem rem_id (k n : Nat) (h : 0 < n) (hk : k ≤ 1000000) : IntKind.i64.wrap ((k : Int).tmod (n : Int)) = ((k % n : Nat) : Int) := by
  rw [Int.tmod_eq_emod_of_nonneg (by omega), ← Int.natCast_emod]
  have := Nat.mod_le k n
  rw [wrap_id] <;> omega
theorem sks_snoc (l : List Sk) (s : Sk) : sks l ++ [[I s.id, I s.rd, I s.own.f, I s.own.r, I s.own.e, I s.own.le, I s.own.ln, I s.own.c, I s.own.m, I s.now.f, I s.now.r, I s.now.e, I s.now.le, I s.now.ln, I s.now.c, I s.now.m, .sl 7 (vts s.hd)]] = sks (l ++ [s]) := by simp [sks, Sk.cells]
theorem sks_set (l : List Sk) (i : Nat) (s : Sk) : (sks l).set i [I s.id, I s.rd, I s.own.f, I s.own.r, I s.own.e, I s.own.le, I s.own.ln, I s.own.c, I s.own.m, I s.now.f, I s.now.r, I s.now.e, I s.now.le, I s.now.ln, I s.now.c, I s.now.m, .sl 7 (vts s.hd)] = sks (l.set i s) := by simp [sks, Sk.cells, List.map_set]
set_option maxHeartbeats 8000000 in
theorem electOne_con (c : Cf) (l : List Vt) (ord : List Pr) : ACon Try.prog 8 [.p (.agg c.cells), .p (.sl 7 (vts l)), .p (.sl 2 (prs ord))] (.p (B true)) := by
  refine ACon.len ⟨Try.f8, Try.func8, rfl, rfl⟩ 1 _ _ rfl fun hlen => ?_
  simp only [vts_len] at hlen
  have hch := check04u_con c
  have hvo := fun h => voters04_con c h
  have hsv := fun h => some_vote (c := c) h
  have hst := fun h x hx => stands (c := c) h (x := x) hx
  have hpw : check c = 0 → (ids c.ms 1).Pairwise (· < ·) := fun h => ids_pw (check_ok h).2.1 1
  have hone := fun b all h1 h2 p q => one_elected (c := c) (V := ids c.ms 1) (b := b) (all := all) h1 h2 (p := p) (q := q)
  have hil := ids_len c.ms 1
  have hfi := fun x h => find04_con c x h
  have hbk := fun all n h1 h2 => backed_con all c n h1 h2
  generalize ids c.ms 1 = V at hvo hsv hst hpw hone hil
  generalize check c = ck0 at hch hsv hst hpw
  generalize hQ : isQ c = Q0 at hone hbk
  obtain ⟨ep, cn, ck, ms⟩ := c
  simp only [Cf.cells] at hch hvo hil hfi hst hbk ⊢
  clear hQ
  by_cases b1 : ck0 = 0
  rotate_left
  · refine wBody Try.tab Try.mixed Try.func8 rfl rfl Try.ntmps8 (by simp) (by simp) fun Q hr hn => ?_
    repeat' first | (refine hK _ ?_; clear hK) | (refine hK _ _ ?_; clear hK) | (clear hK; refine hK _ ?_; clear hK) | (clear hK; clear hK; refine hK _ ?_; clear hK) | (clear hK; clear hK; clear hK; refine hK _ ?_; clear hK) | (clear hK; clear hK; clear hK; clear hK; refine hK _ ?_; clear hK) | (refine wSeq fun K hK => ?_) | (refine wReg ?_; simp only [List.map_cons, List.map_nil, strip]) | (refine wDrwQ rfl (by kernel_rfl) ?_; simp only [List.map_cons, List.map_nil, strip]) | (refine wDrwI ?_; simp only [List.map_cons, List.map_nil, strip]) | (refine wDrw (by kernel_rfl) ?_; simp only [List.map_cons, List.map_nil, strip]) | (refine wIs fun K hK => ?_; simp [b1]) | (refine wIn ?_; refine And.intro (by kernel_rfl) ?_; try simp only [thenA_n]) | (refine wOs fun K hK => ?_; simp [b1]) | (refine wQs fun K hK => ?_; simp [b1]) | (refine CallK_plain ?_; simp [b1]) | (refine CallQ_plain ?_; simp [b1]) | (refine wRet ?_; try simp) | (refine wCond ?_; simp [b1]) | (refine wBlock ?_) | (refine wScope ?_) | (refine wExit ?_; try simp) | (refine wSkip ?_; try simp) | (refine wOn ?_; try simp only [thenA_n]) | (refine wQn ?_; try simp only [thenA_n]) | (refine CallE.pure (hch) rfl ?_) | (refine CallE.lent (hch) rfl ?_) | (refine CallF.pure (hch) rfl ?_) | (refine CallF.lent (hch) rfl ?_) | (refine CallE.own (hch) ?_) | (refine CallE.pure (awake18) rfl ?_) | (refine CallE.lent (awake18) rfl ?_) | (refine CallF.pure (awake18) rfl ?_) | (refine CallF.lent (awake18) rfl ?_) | (refine CallE.own (awake18) ?_)
    all_goals apply hr
    all_goals simp [Try.f8]
  subst b1
  by_cases b2 : 16 < ms.length
  · have b2' : (16 : Int) < ms.length := by omega
    refine wBody Try.tab Try.mixed Try.func8 rfl rfl Try.ntmps8 (by simp) (by simp) fun Q hr hn => ?_
    repeat' first | (refine hK _ ?_; clear hK) | (refine hK _ _ ?_; clear hK) | (clear hK; refine hK _ ?_; clear hK) | (clear hK; clear hK; refine hK _ ?_; clear hK) | (clear hK; clear hK; clear hK; refine hK _ ?_; clear hK) | (clear hK; clear hK; clear hK; clear hK; refine hK _ ?_; clear hK) | (refine wSeq fun K hK => ?_) | (refine wReg ?_; simp only [List.map_cons, List.map_nil, strip]) | (refine wDrwQ rfl (by kernel_rfl) ?_; simp only [List.map_cons, List.map_nil, strip]) | (refine wDrwI ?_; simp only [List.map_cons, List.map_nil, strip]) | (refine wDrw (by kernel_rfl) ?_; simp only [List.map_cons, List.map_nil, strip]) | (refine wIs fun K hK => ?_; simp [b2, b2']) | (refine wIn ?_; refine And.intro (by kernel_rfl) ?_; try simp only [thenA_n]) | (refine wOs fun K hK => ?_; simp [b2, b2']) | (refine wQs fun K hK => ?_; simp [b2, b2']) | (refine CallK_plain ?_; simp [b2, b2']) | (refine CallQ_plain ?_; simp [b2, b2']) | (refine wRet ?_; try simp) | (refine wCond ?_; simp [b2, b2']) | (refine wBlock ?_) | (refine wScope ?_) | (refine wExit ?_; try simp) | (refine wSkip ?_; try simp) | (refine wOn ?_; try simp only [thenA_n]) | (refine wQn ?_; try simp only [thenA_n]) | (refine CallE.pure (hch) rfl ?_) | (refine CallE.lent (hch) rfl ?_) | (refine CallF.pure (hch) rfl ?_) | (refine CallF.lent (hch) rfl ?_) | (refine CallE.own (hch) ?_) | (refine CallE.pure (awake18) rfl ?_) | (refine CallE.lent (awake18) rfl ?_) | (refine CallF.pure (awake18) rfl ?_) | (refine CallF.lent (awake18) rfl ?_) | (refine CallE.own (awake18) ?_)
    all_goals apply hr
    all_goals simp [Try.f8]
  have b2' : ¬ (16 : Int) < ms.length := by omega
  by_cases b3 : 100 < ord.length
  · have b3' : (100 : Int) < ord.length := by omega
    refine wBody Try.tab Try.mixed Try.func8 rfl rfl Try.ntmps8 (by simp) (by simp) fun Q hr hn => ?_
    repeat' first | (refine hK _ ?_; clear hK) | (refine hK _ _ ?_; clear hK) | (clear hK; refine hK _ ?_; clear hK) | (clear hK; clear hK; refine hK _ ?_; clear hK) | (clear hK; clear hK; clear hK; refine hK _ ?_; clear hK) | (clear hK; clear hK; clear hK; clear hK; refine hK _ ?_; clear hK) | (refine wSeq fun K hK => ?_) | (refine wReg ?_; simp only [List.map_cons, List.map_nil, strip]) | (refine wDrwQ rfl (by kernel_rfl) ?_; simp only [List.map_cons, List.map_nil, strip]) | (refine wDrwI ?_; simp only [List.map_cons, List.map_nil, strip]) | (refine wDrw (by kernel_rfl) ?_; simp only [List.map_cons, List.map_nil, strip]) | (refine wIs fun K hK => ?_; simp [b2, b2', b3, b3']) | (refine wIn ?_; refine And.intro (by kernel_rfl) ?_; try simp only [thenA_n]) | (refine wOs fun K hK => ?_; simp [b2, b2', b3, b3']) | (refine wQs fun K hK => ?_; simp [b2, b2', b3, b3']) | (refine CallK_plain ?_; simp [b2, b2', b3, b3']) | (refine CallQ_plain ?_; simp [b2, b2', b3, b3']) | (refine wRet ?_; try simp) | (refine wCond ?_; simp [b2, b2', b3, b3']) | (refine wBlock ?_) | (refine wScope ?_) | (refine wExit ?_; try simp) | (refine wSkip ?_; try simp) | (refine wOn ?_; try simp only [thenA_n]) | (refine wQn ?_; try simp only [thenA_n]) | (refine CallE.pure (hch) rfl ?_) | (refine CallE.lent (hch) rfl ?_) | (refine CallF.pure (hch) rfl ?_) | (refine CallF.lent (hch) rfl ?_) | (refine CallE.own (hch) ?_) | (refine CallE.pure (awake18) rfl ?_) | (refine CallE.lent (awake18) rfl ?_) | (refine CallF.pure (awake18) rfl ?_) | (refine CallF.lent (awake18) rfl ?_) | (refine CallE.own (awake18) ?_)
    all_goals apply hr
    all_goals simp [Try.f8]
  have b3' : ¬ (100 : Int) < ord.length := by omega
  replace hvo := hvo (by omega)
  replace hsv := hsv rfl
  replace hst := hst rfl
  replace hpw := hpw rfl
  refine wBody Try.tab Try.mixed Try.func8 rfl rfl Try.ntmps8 (by simp) (by simp) fun Q hr hn => ?_
  repeat' first | (refine hK _ ?_; clear hK) | (refine hK _ _ ?_; clear hK) | (clear hK; refine hK _ ?_; clear hK) | (clear hK; clear hK; refine hK _ ?_; clear hK) | (clear hK; clear hK; clear hK; refine hK _ ?_; clear hK) | (clear hK; clear hK; clear hK; clear hK; refine hK _ ?_; clear hK) | (refine wSeq fun K hK => ?_) | (refine wReg ?_; simp only [List.map_cons, List.map_nil, strip]) | (refine wDrwQ rfl (by kernel_rfl) ?_; simp only [List.map_cons, List.map_nil, strip]) | (refine wDrwI ?_; simp only [List.map_cons, List.map_nil, strip]) | (refine wDrw (by kernel_rfl) ?_; simp only [List.map_cons, List.map_nil, strip]) | (refine wIs fun K hK => ?_; simp [b2, b2', b3, b3']) | (refine wIn ?_; refine And.intro (by kernel_rfl) ?_; try simp only [thenA_n]) | (refine wOs fun K hK => ?_; simp [b2, b2', b3, b3']) | (refine wQs fun K hK => ?_; simp [b2, b2', b3, b3']) | (refine CallK_plain ?_; simp [b2, b2', b3, b3']) | (refine CallQ_plain ?_; simp [b2, b2', b3, b3']) | (refine wRet ?_; try simp) | (refine wCond ?_; simp [b2, b2', b3, b3']) | (refine wBlock ?_) | (refine wScope ?_) | (refine wExit ?_; try simp) | (refine wSkip ?_; try simp) | (refine wOn ?_; try simp only [thenA_n]) | (refine wQn ?_; try simp only [thenA_n]) | (refine CallE.pure (hch) rfl ?_) | (refine CallE.lent (hch) rfl ?_) | (refine CallF.pure (hch) rfl ?_) | (refine CallF.lent (hch) rfl ?_) | (refine CallE.own (hch) ?_) | (refine CallE.pure (hvo) rfl ?_) | (refine CallE.lent (hvo) rfl ?_) | (refine CallF.pure (hvo) rfl ?_) | (refine CallF.lent (hvo) rfl ?_) | (refine CallE.own (hvo) ?_)
  refine wLoopG [.row 8 45 17] (fun N st => ∃ k, k + N = V.length ∧ ∃ all, GoodK V k 1 all ∧ st.s 1 = .p (.sl 7 (vts l)) ∧ st.s 2 = .p (.sl 2 (prs ord)) ∧ st.s 3 = .ptr 3 0 ∧ st.s 7 = .p (.sl 1 (ints V)) ∧ st.s 8 = .row 8 ∧
    st.b 3 = some (.box 36 [.p (I ep), .p (I cn), .p (I ck), .p (.sl 4 (mbs ms))]) ∧
    st.b 8 = some (.row 45 17 (sks all)) ∧
    st.s 38 = .p (.sl 1 (ints V)) ∧ st.s 39 = .p (I V.length) ∧ st.s 40 = .p (I k)) V.length ⟨0, by simp, [], ⟨rfl, by simp⟩, by simp [sks]⟩ fun K N st hL ⟨k, hk, all, hg, g1, g2, g3, g7, g8, q3, q8, g38, g39, g40⟩ => ?_
  by_cases hlt : k < V.length
  · have hw := wrapS k _ hlt (by omega)
    have hal : all.length ≤ 16 := by rw [hg.1]; omega
    by_cases hl0 : l.length = 0
    · have hl0' : ¬ (0 : Int) < l.length := by omega
      have hb := begin_con V[k] 0 0 0 0
      have hgs := good_snoc hg hlt ⟨V[k], 0, 0, 0, 0, 0, 0⟩ rfl
      have hsn := sks_snoc all (seek0 ⟨V[k], 0, 0, 0, 0, 0, 0⟩)
      generalize seek0 ⟨V[k], 0, 0, 0, 0, 0, 0⟩ = s0 at hb hgs hsn
      simp only [Sk.cells] at hb
      repeat' first | (refine And.intro (by omega) ?_) | (refine hK _ ?_; clear hK) | (refine hK _ _ ?_; clear hK) | (clear hK; refine hK _ ?_; clear hK) | (clear hK; clear hK; refine hK _ ?_; clear hK) | (clear hK; clear hK; clear hK; refine hK _ ?_; clear hK) | (clear hK; clear hK; clear hK; clear hK; refine hK _ ?_; clear hK) | (refine wSeq fun K hK => ?_) | (refine wReg ?_; simp only [List.map_cons, List.map_nil, strip]) | (refine wDrwQ rfl (by kernel_rfl) ?_; simp only [List.map_cons, List.map_nil, strip]) | (refine wDrwI ?_; simp only [List.map_cons, List.map_nil, strip]) | (refine wDrw (by kernel_rfl) ?_; simp only [List.map_cons, List.map_nil, strip]) | (refine wIs fun K hK => ?_; simp [g1, g2, g3, g7, g8, q3, q8, g38, g39, g40, hlt, hw, hl0, hl0']) | (refine wIn ?_; refine And.intro (by kernel_rfl) ?_; try simp only [thenA_n]) | (refine wOs fun K hK => ?_; simp [g1, g2, g3, g7, g8, q3, q8, g38, g39, g40, hlt, hw, hl0, hl0']) | (refine wQs fun K hK => ?_; simp [g1, g2, g3, g7, g8, q3, q8, g38, g39, g40, hlt, hw, hl0, hl0']) | (refine CallK_plain ?_; simp [g1, g2, g3, g7, g8, q3, q8, g38, g39, g40, hlt, hw, hl0, hl0']) | (refine CallQ_plain ?_; simp [g1, g2, g3, g7, g8, q3, q8, g38, g39, g40, hlt, hw, hl0, hl0']) | (refine wRet ?_; try simp) | (refine wCond ?_; simp [g1, g2, g3, g7, g8, q3, q8, g38, g39, g40, hlt, hw, hl0, hl0']) | (refine wBlock ?_) | (refine wScope ?_) | (refine wExit ?_; try simp) | (refine wSkip ?_; try simp) | (refine wOn ?_; try simp only [thenA_n]) | (refine wQn ?_; try simp only [thenA_n]) | (refine CallE.pure (hb) rfl ?_) | (refine CallE.lent (hb) rfl ?_) | (refine CallF.pure (hb) rfl ?_) | (refine CallF.lent (hb) rfl ?_) | (refine CallE.own (hb) ?_)
      refine hL _ (N - 1) (by omega) ⟨k + 1, by omega, all ++ [s0], hgs, ?_⟩
      simp [g1, g2, g3, g7, g8, q3, q8, g38, g39, g40, hw, hsn]
    · have hl0' : (0 : Int) < l.length := by omega
      have hl0'' : ¬ (l.length : Int) = 0 := by omega
      have hrm := rem_id k l.length (by omega) (by omega)
      have hrm' : (k : Int).tmod (l.length : Int) = ((k % l.length : Nat) : Int) := by rw [Int.tmod_eq_emod_of_nonneg (by omega), ← Int.natCast_emod]
      have hrl : k % l.length < l.length := Nat.mod_lt _ (by omega)
      have hl0n : 0 < l.length := by omega
      have hb := begin_con V[k] (l[k % l.length]).r (l[k % l.length]).e (l[k % l.length]).le (l[k % l.length]).ln
      have hgs := good_snoc hg hlt ⟨V[k], (l[k % l.length]).r, (l[k % l.length]).e, (l[k % l.length]).le, (l[k % l.length]).ln, 0, 0⟩ rfl
      generalize seek0 ⟨V[k], (l[k % l.length]).r, (l[k % l.length]).e, (l[k % l.length]).le, (l[k % l.length]).ln, 0, 0⟩ = s0 at hb hgs
      have hsn := sks_snoc all s0
      simp only [Sk.cells] at hb
      generalize k % l.length = r at hrm hrm' hrl hb
      repeat' first | (refine And.intro (by omega) ?_) | (refine hK _ ?_; clear hK) | (refine hK _ _ ?_; clear hK) | (clear hK; refine hK _ ?_; clear hK) | (clear hK; clear hK; refine hK _ ?_; clear hK) | (clear hK; clear hK; clear hK; refine hK _ ?_; clear hK) | (clear hK; clear hK; clear hK; clear hK; refine hK _ ?_; clear hK) | (refine wSeq fun K hK => ?_) | (refine wReg ?_; simp only [List.map_cons, List.map_nil, strip]) | (refine wDrwQ rfl (by kernel_rfl) ?_; simp only [List.map_cons, List.map_nil, strip]) | (refine wDrwI ?_; simp only [List.map_cons, List.map_nil, strip]) | (refine wDrw (by kernel_rfl) ?_; simp only [List.map_cons, List.map_nil, strip]) | (refine wIs fun K hK => ?_; simp [g1, g2, g3, g7, g8, q3, q8, g38, g39, g40, hlt, hw, hl0, hl0n, hl0', hl0'', hrm, hrm', hrl]) | (refine wIn ?_; refine And.intro (by kernel_rfl) ?_; try simp only [thenA_n]) | (refine wOs fun K hK => ?_; simp [g1, g2, g3, g7, g8, q3, q8, g38, g39, g40, hlt, hw, hl0, hl0n, hl0', hl0'', hrm, hrm', hrl]) | (refine wQs fun K hK => ?_; simp [g1, g2, g3, g7, g8, q3, q8, g38, g39, g40, hlt, hw, hl0, hl0n, hl0', hl0'', hrm, hrm', hrl]) | (refine CallK_plain ?_; simp [g1, g2, g3, g7, g8, q3, q8, g38, g39, g40, hlt, hw, hl0, hl0n, hl0', hl0'', hrm, hrm', hrl]) | (refine CallQ_plain ?_; simp [g1, g2, g3, g7, g8, q3, q8, g38, g39, g40, hlt, hw, hl0, hl0n, hl0', hl0'', hrm, hrm', hrl]) | (refine wRet ?_; try simp) | (refine wCond ?_; simp [g1, g2, g3, g7, g8, q3, q8, g38, g39, g40, hlt, hw, hl0, hl0n, hl0', hl0'', hrm, hrm', hrl]) | (refine wBlock ?_) | (refine wScope ?_) | (refine wExit ?_; try simp) | (refine wSkip ?_; try simp) | (refine wOn ?_; try simp only [thenA_n]) | (refine wQn ?_; try simp only [thenA_n]) | (refine CallE.pure (hb) rfl ?_) | (refine CallE.lent (hb) rfl ?_) | (refine CallF.pure (hb) rfl ?_) | (refine CallF.lent (hb) rfl ?_) | (refine CallE.own (hb) ?_)
      refine hL _ (N - 1) (by omega) ⟨k + 1, by omega, all ++ [s0], hgs, ?_⟩
      simp [g1, g2, g3, g7, g8, q3, q8, g38, g39, g40, hw, hsn]
  · obtain rfl : k = V.length := by omega
    repeat' first | (refine hK _ ?_; clear hK) | (refine hK _ _ ?_; clear hK) | (clear hK; refine hK _ ?_; clear hK) | (clear hK; clear hK; refine hK _ ?_; clear hK) | (clear hK; clear hK; clear hK; refine hK _ ?_; clear hK) | (clear hK; clear hK; clear hK; clear hK; refine hK _ ?_; clear hK) | (refine wSeq fun K hK => ?_) | (refine wReg ?_; simp only [List.map_cons, List.map_nil, strip]) | (refine wDrwQ rfl (by kernel_rfl) ?_; simp only [List.map_cons, List.map_nil, strip]) | (refine wDrwI ?_; simp only [List.map_cons, List.map_nil, strip]) | (refine wDrw (by kernel_rfl) ?_; simp only [List.map_cons, List.map_nil, strip]) | (refine wIs fun K hK => ?_; simp [g1, g2, g3, g7, g8, q3, q8, g38, g39, g40, hlt]) | (refine wIn ?_; refine And.intro (by kernel_rfl) ?_; try simp only [thenA_n]) | (refine wOs fun K hK => ?_; simp [g1, g2, g3, g7, g8, q3, q8, g38, g39, g40, hlt]) | (refine wQs fun K hK => ?_; simp [g1, g2, g3, g7, g8, q3, q8, g38, g39, g40, hlt]) | (refine CallK_plain ?_; simp [g1, g2, g3, g7, g8, q3, q8, g38, g39, g40, hlt]) | (refine CallQ_plain ?_; simp [g1, g2, g3, g7, g8, q3, q8, g38, g39, g40, hlt]) | (refine wRet ?_; try simp) | (refine wCond ?_; simp [g1, g2, g3, g7, g8, q3, q8, g38, g39, g40, hlt]) | (refine wBlock ?_) | (refine wScope ?_) | (refine wExit ?_; try simp) | (refine wSkip ?_; try simp) | (refine wOn ?_; try simp only [thenA_n]) | (refine wQn ?_; try simp only [thenA_n])
    have hVn : 0 < V.length := hsv
    refine wLoop (fun N st => ∃ k, k + N = ord.length ∧ ∃ all, GoodK V V.length (1 + 2 * k) all ∧ st.s 3 = .ptr 3 0 ∧ st.s 7 = .p (.sl 1 (ints V)) ∧ st.s 8 = .row 8 ∧
      st.b 3 = some (.box 36 [.p (I ep), .p (I cn), .p (I ck), .p (.sl 4 (mbs ms))]) ∧
      st.b 8 = some (.row 45 17 (sks all)) ∧
      st.s 68 = .p (.sl 2 (prs ord)) ∧ st.s 69 = .p (I ord.length) ∧ st.s 70 = .p (I k)) ord.length ⟨0, by simp, all, by simpa using hg, by simp [g1, g2, g3, g7, g8, q3, q8]⟩ fun K N st hL ⟨k, hk, all, hg, g3, g7, g8, q3, q8, g68, g69, g70⟩ => ?_
    by_cases hlt : k < ord.length
    · have hw := wrapS k _ hlt (by omega)
      obtain ⟨i, hi, ci⟩ := server_con ord[k].a V.length hVn (by omega)
      obtain ⟨j, hj, cj⟩ := server_con ord[k].b V.length hVn (by omega)
      have hal := hg.1
      have hi' : i < all.length := by omega
      have hj' : j < all.length := by omega
      have c1 := hear_con all[i] V V all[j].now (by have := (hg.2 i hi' hi).2.2.2; omega)
      have hgs := good_set hg hi' all[j].now
      generalize (hear all[i] V V all[j].now).1 = s' at c1 hgs
      generalize (hear all[i] V V all[j].now).2 = m at c1
      simp only [Sk.cells, Vt.cells] at c1
      have hset := sks_set all i s'
      have hsc : s'.now.c ∈ V := by
        have := (hgs.2 i (by simpa using hi') hi).2.2.1
        simpa using this
      obtain ⟨mb, hm1, hm2⟩ := hst _ hsc
      have c3 := hfi s'.now.c (by omega)
      simp only [hm2, Mb.cells, hm1] at c3
      have hal2 : (all.set i s').length = V.length := by simp [hal]
      have hone2 := hone _ _ hpw hgs
      obtain ⟨all2, he2⟩ : ∃ x, x = all.set i s' := ⟨_, rfl⟩
      rw [← he2] at hgs hset hal2 hone2
      have c4 := fun n => hbk all2 n (by omega) (by omega)
      have hi2 : i < all2.length := by omega
      have hgi : all2[i] = s' := by simp [he2]
      repeat' first | (refine hK _ ?_; clear hK) | (refine hK _ _ ?_; clear hK) | (clear hK; refine hK _ ?_; clear hK) | (clear hK; clear hK; refine hK _ ?_; clear hK) | (clear hK; clear hK; clear hK; refine hK _ ?_; clear hK) | (clear hK; clear hK; clear hK; clear hK; refine hK _ ?_; clear hK) | (refine wSeq fun K hK => ?_) | (refine wReg ?_; simp only [List.map_cons, List.map_nil, strip]) | (refine wDrwQ rfl (by kernel_rfl) ?_; simp only [List.map_cons, List.map_nil, strip]) | (refine wDrwI ?_; simp only [List.map_cons, List.map_nil, strip]) | (refine wDrw (by kernel_rfl) ?_; simp only [List.map_cons, List.map_nil, strip]) | (refine wIs fun K hK => ?_; simp [g3, g7, g8, q3, q8, g68, g69, g70, hlt, hw, hi', hj', hset, hi2, hgi, hm1]) | (refine wIn ?_; refine And.intro (by kernel_rfl) ?_; try simp only [thenA_n]) | (refine wOs fun K hK => ?_; simp [g3, g7, g8, q3, q8, g68, g69, g70, hlt, hw, hi', hj', hset, hi2, hgi, hm1]) | (refine wQs fun K hK => ?_; simp [g3, g7, g8, q3, q8, g68, g69, g70, hlt, hw, hi', hj', hset, hi2, hgi, hm1]) | (refine CallK_plain ?_; simp [g3, g7, g8, q3, q8, g68, g69, g70, hlt, hw, hi', hj', hset, hi2, hgi, hm1]) | (refine CallQ_plain ?_; simp [g3, g7, g8, q3, q8, g68, g69, g70, hlt, hw, hi', hj', hset, hi2, hgi, hm1]) | (refine wRet ?_; try simp) | (refine wCond ?_; simp [g3, g7, g8, q3, q8, g68, g69, g70, hlt, hw, hi', hj', hset, hi2, hgi, hm1]) | (refine wBlock ?_) | (refine wScope ?_) | (refine wExit ?_; try simp) | (refine wSkip ?_; try simp) | (refine wOn ?_; try simp only [thenA_n]) | (refine wQn ?_; try simp only [thenA_n]) | (refine CallE.pure (ci) rfl ?_) | (refine CallE.lent (ci) rfl ?_) | (refine CallF.pure (ci) rfl ?_) | (refine CallF.lent (ci) rfl ?_) | (refine CallE.own (ci) ?_) | (refine CallE.pure (cj) rfl ?_) | (refine CallE.lent (cj) rfl ?_) | (refine CallF.pure (cj) rfl ?_) | (refine CallF.lent (cj) rfl ?_) | (refine CallE.own (cj) ?_) | (refine CallE.pure (c1) rfl ?_) | (refine CallE.lent (c1) rfl ?_) | (refine CallF.pure (c1) rfl ?_) | (refine CallF.lent (c1) rfl ?_) | (refine CallE.own (c1) ?_) | (refine CallE.pure (c3) rfl ?_) | (refine CallE.lent (c3) rfl ?_) | (refine CallF.pure (c3) rfl ?_) | (refine CallF.lent (c3) rfl ?_) | (refine CallE.own (c3) ?_)
      refine wLoop (fun M st => ∃ j, j + M = V.length ∧ ∃ n : Nat, (n = 0 ∨ (n = 1 ∧ ∃ t, ∃ ht : t < V.length, t < j ∧ Q0 (backers all2 V[t]) = true)) ∧ st.s 3 = .ptr 3 0 ∧ st.s 7 = .p (.sl 1 (ints V)) ∧ st.s 8 = .row 8 ∧
        st.b 3 = some (.box 36 [.p (I ep), .p (I cn), .p (I ck), .p (.sl 4 (mbs ms))]) ∧
        st.b 8 = some (.row 45 17 (sks all2)) ∧
        st.s 68 = .p (.sl 2 (prs ord)) ∧ st.s 69 = .p (I ord.length) ∧ st.s 70 = .p (I k) ∧ st.s 18 = .p (I n) ∧ st.s 120 = .p (.sl 1 (ints V)) ∧ st.s 121 = .p (I V.length) ∧ st.s 122 = .p (I j)) V.length ⟨0, by simp, 0, .inl rfl, by simp [g3, g7, g8, q3, q8, g68, g69, g70, hset]⟩ fun K2 M st hL2 ⟨j, hj, n, hn, g3, g7, g8, q3, q8, g68, g69, g70, g18, g120, g121, g122⟩ => ?_
      by_cases hjl : j < V.length
      · have hwj := wrapS j _ hjl (by omega)
        have c5 := c4 V[j]
        cases hQj : Q0 (backers all2 V[j]) with
        | true =>
          rw [hQj] at c5
          have hn0 : n = 0 := by
            rcases hn with hn | ⟨-, t, ht, htj, hq⟩
            · exact hn
            · have := hone2 _ _ hq hQj
              have := pw_inj hpw ht hjl this
              omega
          subst hn0
          repeat' first | (refine hK _ ?_; clear hK) | (refine hK _ _ ?_; clear hK) | (clear hK; refine hK _ ?_; clear hK) | (clear hK; clear hK; refine hK _ ?_; clear hK) | (clear hK; clear hK; clear hK; refine hK _ ?_; clear hK) | (clear hK; clear hK; clear hK; clear hK; refine hK _ ?_; clear hK) | (refine wSeq fun K hK => ?_) | (refine wReg ?_; simp only [List.map_cons, List.map_nil, strip]) | (refine wDrwQ rfl (by kernel_rfl) ?_; simp only [List.map_cons, List.map_nil, strip]) | (refine wDrwI ?_; simp only [List.map_cons, List.map_nil, strip]) | (refine wDrw (by kernel_rfl) ?_; simp only [List.map_cons, List.map_nil, strip]) | (refine wIs fun K hK => ?_; simp [g3, g7, g8, q3, q8, g68, g69, g70, g18, g120, g121, g122, hjl, hwj]) | (refine wIn ?_; refine And.intro (by kernel_rfl) ?_; try simp only [thenA_n]) | (refine wOs fun K hK => ?_; simp [g3, g7, g8, q3, q8, g68, g69, g70, g18, g120, g121, g122, hjl, hwj]) | (refine wQs fun K hK => ?_; simp [g3, g7, g8, q3, q8, g68, g69, g70, g18, g120, g121, g122, hjl, hwj]) | (refine CallK_plain ?_; simp [g3, g7, g8, q3, q8, g68, g69, g70, g18, g120, g121, g122, hjl, hwj]) | (refine CallQ_plain ?_; simp [g3, g7, g8, q3, q8, g68, g69, g70, g18, g120, g121, g122, hjl, hwj]) | (refine wRet ?_; try simp) | (refine wCond ?_; simp [g3, g7, g8, q3, q8, g68, g69, g70, g18, g120, g121, g122, hjl, hwj]) | (refine wBlock ?_) | (refine wScope ?_) | (refine wExit ?_; try simp) | (refine wSkip ?_; try simp) | (refine wOn ?_; try simp only [thenA_n]) | (refine wQn ?_; try simp only [thenA_n]) | (refine CallE.pure (c5) rfl ?_) | (refine CallE.lent (c5) rfl ?_) | (refine CallF.pure (c5) rfl ?_) | (refine CallF.lent (c5) rfl ?_) | (refine CallE.own (c5) ?_)
          refine hL2 _ (M - 1) (by omega) ⟨j + 1, by omega, 1, .inr ⟨rfl, j, hjl, by omega, hQj⟩, ?_⟩
          simp [g3, g7, g8, q3, q8, g68, g69, g70, g18, g120, g121, g122, hwj, show IntKind.i64.wrap 1 = 1 from rfl]
        | false =>
          rw [hQj] at c5
          repeat' first | (refine hK _ ?_; clear hK) | (refine hK _ _ ?_; clear hK) | (clear hK; refine hK _ ?_; clear hK) | (clear hK; clear hK; refine hK _ ?_; clear hK) | (clear hK; clear hK; clear hK; refine hK _ ?_; clear hK) | (clear hK; clear hK; clear hK; clear hK; refine hK _ ?_; clear hK) | (refine wSeq fun K hK => ?_) | (refine wReg ?_; simp only [List.map_cons, List.map_nil, strip]) | (refine wDrwQ rfl (by kernel_rfl) ?_; simp only [List.map_cons, List.map_nil, strip]) | (refine wDrwI ?_; simp only [List.map_cons, List.map_nil, strip]) | (refine wDrw (by kernel_rfl) ?_; simp only [List.map_cons, List.map_nil, strip]) | (refine wIs fun K hK => ?_; simp [g3, g7, g8, q3, q8, g68, g69, g70, g18, g120, g121, g122, hjl, hwj]) | (refine wIn ?_; refine And.intro (by kernel_rfl) ?_; try simp only [thenA_n]) | (refine wOs fun K hK => ?_; simp [g3, g7, g8, q3, q8, g68, g69, g70, g18, g120, g121, g122, hjl, hwj]) | (refine wQs fun K hK => ?_; simp [g3, g7, g8, q3, q8, g68, g69, g70, g18, g120, g121, g122, hjl, hwj]) | (refine CallK_plain ?_; simp [g3, g7, g8, q3, q8, g68, g69, g70, g18, g120, g121, g122, hjl, hwj]) | (refine CallQ_plain ?_; simp [g3, g7, g8, q3, q8, g68, g69, g70, g18, g120, g121, g122, hjl, hwj]) | (refine wRet ?_; try simp) | (refine wCond ?_; simp [g3, g7, g8, q3, q8, g68, g69, g70, g18, g120, g121, g122, hjl, hwj]) | (refine wBlock ?_) | (refine wScope ?_) | (refine wExit ?_; try simp) | (refine wSkip ?_; try simp) | (refine wOn ?_; try simp only [thenA_n]) | (refine wQn ?_; try simp only [thenA_n]) | (refine CallE.pure (c5) rfl ?_) | (refine CallE.lent (c5) rfl ?_) | (refine CallF.pure (c5) rfl ?_) | (refine CallF.lent (c5) rfl ?_) | (refine CallE.own (c5) ?_)
          refine hL2 _ (M - 1) (by omega) ⟨j + 1, by omega, n, hn.imp_right fun ⟨a, t, ht, b, c⟩ => ⟨a, t, ht, by omega, c⟩, ?_⟩
          simp [g3, g7, g8, q3, q8, g68, g69, g70, g18, g120, g121, g122, hwj]
      · have hn1 : ¬ (1 : Int) < n := by rcases hn with hn | ⟨hn, -⟩ <;> omega
        repeat' first | (refine hK _ ?_; clear hK) | (refine hK _ _ ?_; clear hK) | (clear hK; refine hK _ ?_; clear hK) | (clear hK; clear hK; refine hK _ ?_; clear hK) | (clear hK; clear hK; clear hK; refine hK _ ?_; clear hK) | (clear hK; clear hK; clear hK; clear hK; refine hK _ ?_; clear hK) | (refine wSeq fun K hK => ?_) | (refine wReg ?_; simp only [List.map_cons, List.map_nil, strip]) | (refine wDrwQ rfl (by kernel_rfl) ?_; simp only [List.map_cons, List.map_nil, strip]) | (refine wDrwI ?_; simp only [List.map_cons, List.map_nil, strip]) | (refine wDrw (by kernel_rfl) ?_; simp only [List.map_cons, List.map_nil, strip]) | (refine wIs fun K hK => ?_; simp [g3, g7, g8, q3, q8, g68, g69, g70, g18, g120, g121, g122, hjl, hn1, hw]) | (refine wIn ?_; refine And.intro (by kernel_rfl) ?_; try simp only [thenA_n]) | (refine wOs fun K hK => ?_; simp [g3, g7, g8, q3, q8, g68, g69, g70, g18, g120, g121, g122, hjl, hn1, hw]) | (refine wQs fun K hK => ?_; simp [g3, g7, g8, q3, q8, g68, g69, g70, g18, g120, g121, g122, hjl, hn1, hw]) | (refine CallK_plain ?_; simp [g3, g7, g8, q3, q8, g68, g69, g70, g18, g120, g121, g122, hjl, hn1, hw]) | (refine CallQ_plain ?_; simp [g3, g7, g8, q3, q8, g68, g69, g70, g18, g120, g121, g122, hjl, hn1, hw]) | (refine wRet ?_; try simp) | (refine wCond ?_; simp [g3, g7, g8, q3, q8, g68, g69, g70, g18, g120, g121, g122, hjl, hn1, hw]) | (refine wBlock ?_) | (refine wScope ?_) | (refine wExit ?_; try simp) | (refine wSkip ?_; try simp) | (refine wOn ?_; try simp only [thenA_n]) | (refine wQn ?_; try simp only [thenA_n])
        refine hL _ (N - 1) (by omega) ⟨k + 1, by omega, all2, hgs, ?_⟩
        simp [g3, g7, g8, q3, q8, g68, g69, g70, hw]
    · repeat' first | (refine hK _ ?_; clear hK) | (refine hK _ _ ?_; clear hK) | (clear hK; refine hK _ ?_; clear hK) | (clear hK; clear hK; refine hK _ ?_; clear hK) | (clear hK; clear hK; clear hK; refine hK _ ?_; clear hK) | (clear hK; clear hK; clear hK; clear hK; refine hK _ ?_; clear hK) | (refine wSeq fun K hK => ?_) | (refine wReg ?_; simp only [List.map_cons, List.map_nil, strip]) | (refine wDrwQ rfl (by kernel_rfl) ?_; simp only [List.map_cons, List.map_nil, strip]) | (refine wDrwI ?_; simp only [List.map_cons, List.map_nil, strip]) | (refine wDrw (by kernel_rfl) ?_; simp only [List.map_cons, List.map_nil, strip]) | (refine wIs fun K hK => ?_; simp [g3, g7, g8, q3, q8, g68, g69, g70, hlt]) | (refine wIn ?_; refine And.intro (by kernel_rfl) ?_; try simp only [thenA_n]) | (refine wOs fun K hK => ?_; simp [g3, g7, g8, q3, q8, g68, g69, g70, hlt]) | (refine wQs fun K hK => ?_; simp [g3, g7, g8, q3, q8, g68, g69, g70, hlt]) | (refine CallK_plain ?_; simp [g3, g7, g8, q3, q8, g68, g69, g70, hlt]) | (refine CallQ_plain ?_; simp [g3, g7, g8, q3, q8, g68, g69, g70, hlt]) | (refine wRet ?_; try simp) | (refine wCond ?_; simp [g3, g7, g8, q3, q8, g68, g69, g70, hlt]) | (refine wBlock ?_) | (refine wScope ?_) | (refine wExit ?_; try simp) | (refine wSkip ?_; try simp) | (refine wOn ?_; try simp only [thenA_n]) | (refine wQn ?_; try simp only [thenA_n]) | (refine CallE.pure (awake18) rfl ?_) | (refine CallE.lent (awake18) rfl ?_) | (refine CallF.pure (awake18) rfl ?_) | (refine CallF.lent (awake18) rfl ?_) | (refine CallE.own (awake18) ?_)
      all_goals apply hr
      all_goals simp [Try.f8]
end Go.Proofs.Ytdacplfmpjhjhaa
