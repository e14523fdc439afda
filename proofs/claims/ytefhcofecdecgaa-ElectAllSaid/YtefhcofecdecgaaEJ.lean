/- The law ElectAll. -/
import Derived.Test.YtefhcofecdecgaaEBx
import Derived.Test.YtefhcofecdecgaaED
import Derived.Test.YtefhcofecdecgaaEJ0
import Derived.Test.YtefhcofecdecgaaQCu
import Derived.Test.YtefhcofecdecgaaAwk
namespace Go.Proofs.Ytefhcofecdecgaa
set_option linter.unusedSimpArgs false
set_option linter.unusedVariables false
open Go Go.Av
attribute [local simp] Try.T1 Try.T2 Try.T3 Try.T4 Try.T5 Try.T9 Try.T12 Try.T21 Try.T23 Try.T24 Try.T26 Try.T27 Try.T29 Try.T30 Try.T31 Try.T32 Try.T33 Try.T34 Try.T35 Try.T37 Try.T38 Try.T39 Try.T40 Try.T41 Try.T42 Try.T43 Try.T44 Try.T45 Try.T46 Try.T47 Try.T48 Try.T49 Try.T51 Try.T52 Try.T53 Try.T55 Try.T57 Try.T58 Try.T59 Try.T60 Try.T61 Try.T62 Try.T63 Try.T64 Try.T65 Try.T66 Try.T67 Try.T69 Try.T71 Try.T72 Try.T73 Try.T74 Try.T75 Try.T76 Try.T77 Try.T78 Try.T79 Try.T80 Try.T82 Try.T83 Try.T84 Try.T85 Try.T86 Try.T87 Try.T88 Try.T89 Try.T91 Try.T92 Try.T94 Try.T95 Try.T96 Try.T97 Try.T98 Try.T99 Try.T100 Try.T101 Try.T102 Try.T103 Try.T104 Try.T105 Try.T106 Try.T107 Try.T109 Try.T110 Try.T111 Try.T112 Try.T113 Try.T114 Try.T115 Try.T116 Try.T118 Try.T119 Try.T121 Try.T122 Try.T124 Try.T125 Try.T127 Try.T128 Try.T130 Try.T132 Try.T133 Try.T135 Try.T136 Try.T137 Try.T139 Try.T141 Try.T142 Try.T143 Try.T145 Try.T147 Try.T149 Try.T150 Try.T152 Try.T154 Try.T155 Try.T156 Try.T157 Try.T158 Try.T159 Try.T160 Try.T161 Try.T162 Try.T163 Try.T164 Try.T165 Try.T166 Try.T167 Try.T168 Try.T170 Try.T172 Try.T173 Try.T174 Try.T175 Try.T176 Try.T177 Try.T178 Try.T179 Try.T180 Try.T181 Try.T182 Try.T183 Try.T184 Try.T185 Try.T186 Try.T187 Try.T188 Try.T190 Try.T191 Try.T192 Try.T193 Try.T194 Try.T195 Try.T196 Try.T198 Try.T199 Try.T200 Try.T202 Try.T203 Try.T204 Try.T205 Try.T206 Try.T207 Try.T208 Try.T209 Try.T210 Try.T211 Try.T212 Try.T218 Try.T219 Try.T222
attribute [local irreducible] Go.Av.CallK Go.Av.CallE Go.Av.CallQ Go.Av.CallF Go.Av.Con

theorem awake18 : ACon Try.prog 30 [] (.p (B true)) := xCall_sound Try.tab Try.mixed base_ok 40 _ _ _ _ (by kernel_rfl)
theorem remA_id (k n : Nat) (h : 0 < n) (hk : k ≤ 1000000) : IntKind.i64.wrap ((k : Int).tmod (n : Int)) = ((k % n : Nat) : Int) := by
  rw [Int.tmod_eq_emod_of_nonneg (by omega), ← Int.natCast_emod]
  have := Nat.mod_le k n
  rw [wrap_id] <;> omega
theorem sksA_snoc (l : List Sk) (s : Sk) : sks l ++ [[I s.id, I s.rd, I s.own.f, I s.own.r, I s.own.e, I s.own.le, I s.own.ln, I s.own.c, I s.own.m, I s.now.f, I s.now.r, I s.now.e, I s.now.le, I s.now.ln, I s.now.c, I s.now.m, .sl 7 (vts s.hd)]] = sks (l ++ [s]) := by simp [sks, Sk.cells]
set_option maxHeartbeats 16000000 in
theorem electAll_con (c : Cf) (l : List Vt) : ACon Try.prog 10 [.p (.agg c.cells), .p (.sl 7 (vts l))] (.p (B true)) := by
  refine ACon.len ⟨Try.f10, Try.func10, rfl, rfl⟩ 1 _ _ rfl fun hlen => ?_
  simp only [vts_len] at hlen
  have hch := check04u_con c
  have hvo := fun h => voters04_con c h
  have hsv := fun h => some_vote (c := c) h
  have hel := fun (h : check c = 0) vs h1 h2 => all_elect (c := c) h (vs := vs) h1 h2
  have hil := ids_len c.ms 1
  have hwn := fun s h1 h2 => winner_con s c h1 h2
  generalize ids c.ms 1 = V at hvo hsv hil hel
  generalize check c = ck0 at hch hsv hel
  generalize hAQ : allQ [c] = Q0 at hel hwn
  obtain ⟨ep, cn, ck, ms⟩ := c
  clear hAQ
  simp only [Cf.cells] at hch hvo hil hwn ⊢
  by_cases b1 : ck0 = 0
  rotate_left
  · refine wBody Try.tab Try.mixed Try.func10 rfl rfl Try.ntmps10 (by simp) (by simp) fun Q hr hn => ?_
    repeat' first | (refine hK _ ?_; clear hK) | (refine hK _ _ ?_; clear hK) | (clear hK; refine hK _ ?_; clear hK) | (clear hK; clear hK; refine hK _ ?_; clear hK) | (clear hK; clear hK; clear hK; refine hK _ ?_; clear hK) | (clear hK; clear hK; clear hK; clear hK; refine hK _ ?_; clear hK) | (refine wSeq fun K hK => ?_) | (refine wReg ?_; simp only [List.map_cons, List.map_nil, strip]) | (refine wDrwQ rfl (by kernel_rfl) ?_; simp only [List.map_cons, List.map_nil, strip]) | (refine wDrwI ?_; simp only [List.map_cons, List.map_nil, strip]) | (refine wDrw (by kernel_rfl) ?_; simp only [List.map_cons, List.map_nil, strip]) | (refine wIs fun K hK => ?_; simp [b1]) | (refine wIn ?_; refine And.intro (by kernel_rfl) ?_; try simp only [thenA_n]) | (refine wOs fun K hK => ?_; simp [b1]) | (refine wQs fun K hK => ?_; simp [b1]) | (refine CallK_plain ?_; simp [b1]) | (refine CallQ_plain ?_; simp [b1]) | (refine wRet ?_; try simp) | (refine wCond ?_; simp [b1]) | (refine wBlock ?_) | (refine wScope ?_) | (refine wExit ?_; try simp) | (refine wSkip ?_; try simp) | (refine wOn ?_; try simp only [thenA_n]) | (refine wQn ?_; try simp only [thenA_n]) | (refine CallE.pure (hch) rfl ?_) | (refine CallE.lent (hch) rfl ?_) | (refine CallF.pure (hch) rfl ?_) | (refine CallF.lent (hch) rfl ?_) | (refine CallE.own (hch) ?_) | (refine CallE.pure (awake18) rfl ?_) | (refine CallE.lent (awake18) rfl ?_) | (refine CallF.pure (awake18) rfl ?_) | (refine CallF.lent (awake18) rfl ?_) | (refine CallE.own (awake18) ?_)
    all_goals apply hr
    all_goals simp [Try.f10]
  subst b1
  by_cases b2 : 16 < ms.length
  · have b2' : (16 : Int) < ms.length := by omega
    refine wBody Try.tab Try.mixed Try.func10 rfl rfl Try.ntmps10 (by simp) (by simp) fun Q hr hn => ?_
    repeat' first | (refine hK _ ?_; clear hK) | (refine hK _ _ ?_; clear hK) | (clear hK; refine hK _ ?_; clear hK) | (clear hK; clear hK; refine hK _ ?_; clear hK) | (clear hK; clear hK; clear hK; refine hK _ ?_; clear hK) | (clear hK; clear hK; clear hK; clear hK; refine hK _ ?_; clear hK) | (refine wSeq fun K hK => ?_) | (refine wReg ?_; simp only [List.map_cons, List.map_nil, strip]) | (refine wDrwQ rfl (by kernel_rfl) ?_; simp only [List.map_cons, List.map_nil, strip]) | (refine wDrwI ?_; simp only [List.map_cons, List.map_nil, strip]) | (refine wDrw (by kernel_rfl) ?_; simp only [List.map_cons, List.map_nil, strip]) | (refine wIs fun K hK => ?_; simp [b2, b2']) | (refine wIn ?_; refine And.intro (by kernel_rfl) ?_; try simp only [thenA_n]) | (refine wOs fun K hK => ?_; simp [b2, b2']) | (refine wQs fun K hK => ?_; simp [b2, b2']) | (refine CallK_plain ?_; simp [b2, b2']) | (refine CallQ_plain ?_; simp [b2, b2']) | (refine wRet ?_; try simp) | (refine wCond ?_; simp [b2, b2']) | (refine wBlock ?_) | (refine wScope ?_) | (refine wExit ?_; try simp) | (refine wSkip ?_; try simp) | (refine wOn ?_; try simp only [thenA_n]) | (refine wQn ?_; try simp only [thenA_n]) | (refine CallE.pure (hch) rfl ?_) | (refine CallE.lent (hch) rfl ?_) | (refine CallF.pure (hch) rfl ?_) | (refine CallF.lent (hch) rfl ?_) | (refine CallE.own (hch) ?_) | (refine CallE.pure (awake18) rfl ?_) | (refine CallE.lent (awake18) rfl ?_) | (refine CallF.pure (awake18) rfl ?_) | (refine CallF.lent (awake18) rfl ?_) | (refine CallE.own (awake18) ?_)
    all_goals apply hr
    all_goals simp [Try.f10]
  have b2' : ¬ (16 : Int) < ms.length := by omega
  by_cases b3 : l.length = 0
  · refine wBody Try.tab Try.mixed Try.func10 rfl rfl Try.ntmps10 (by simp) (by simp) fun Q hr hn => ?_
    repeat' first | (refine hK _ ?_; clear hK) | (refine hK _ _ ?_; clear hK) | (clear hK; refine hK _ ?_; clear hK) | (clear hK; clear hK; refine hK _ ?_; clear hK) | (clear hK; clear hK; clear hK; refine hK _ ?_; clear hK) | (clear hK; clear hK; clear hK; clear hK; refine hK _ ?_; clear hK) | (refine wSeq fun K hK => ?_) | (refine wReg ?_; simp only [List.map_cons, List.map_nil, strip]) | (refine wDrwQ rfl (by kernel_rfl) ?_; simp only [List.map_cons, List.map_nil, strip]) | (refine wDrwI ?_; simp only [List.map_cons, List.map_nil, strip]) | (refine wDrw (by kernel_rfl) ?_; simp only [List.map_cons, List.map_nil, strip]) | (refine wIs fun K hK => ?_; simp [b2, b2', b3]) | (refine wIn ?_; refine And.intro (by kernel_rfl) ?_; try simp only [thenA_n]) | (refine wOs fun K hK => ?_; simp [b2, b2', b3]) | (refine wQs fun K hK => ?_; simp [b2, b2', b3]) | (refine CallK_plain ?_; simp [b2, b2', b3]) | (refine CallQ_plain ?_; simp [b2, b2', b3]) | (refine wRet ?_; try simp) | (refine wCond ?_; simp [b2, b2', b3]) | (refine wBlock ?_) | (refine wScope ?_) | (refine wExit ?_; try simp) | (refine wSkip ?_; try simp) | (refine wOn ?_; try simp only [thenA_n]) | (refine wQn ?_; try simp only [thenA_n]) | (refine CallE.pure (hch) rfl ?_) | (refine CallE.lent (hch) rfl ?_) | (refine CallF.pure (hch) rfl ?_) | (refine CallF.lent (hch) rfl ?_) | (refine CallE.own (hch) ?_) | (refine CallE.pure (awake18) rfl ?_) | (refine CallE.lent (awake18) rfl ?_) | (refine CallF.pure (awake18) rfl ?_) | (refine CallF.lent (awake18) rfl ?_) | (refine CallE.own (awake18) ?_)
    all_goals apply hr
    all_goals simp [Try.f10]
  have b3' : ¬ (l.length : Int) = 0 := by omega
  replace hvo := hvo (by omega)
  replace hsv := hsv rfl
  replace hel := hel rfl
  have hV16 : V.length ≤ 16 := by omega
  refine wBody Try.tab Try.mixed Try.func10 rfl rfl Try.ntmps10 (by simp) (by simp) fun Q hr hn => ?_
  repeat' first | (refine hK _ ?_; clear hK) | (refine hK _ _ ?_; clear hK) | (clear hK; refine hK _ ?_; clear hK) | (clear hK; clear hK; refine hK _ ?_; clear hK) | (clear hK; clear hK; clear hK; refine hK _ ?_; clear hK) | (clear hK; clear hK; clear hK; clear hK; refine hK _ ?_; clear hK) | (refine wSeq fun K hK => ?_) | (refine wReg ?_; simp only [List.map_cons, List.map_nil, strip]) | (refine wDrwQ rfl (by kernel_rfl) ?_; simp only [List.map_cons, List.map_nil, strip]) | (refine wDrwI ?_; simp only [List.map_cons, List.map_nil, strip]) | (refine wDrw (by kernel_rfl) ?_; simp only [List.map_cons, List.map_nil, strip]) | (refine wIs fun K hK => ?_; simp [b2, b2', b3, b3']) | (refine wIn ?_; refine And.intro (by kernel_rfl) ?_; try simp only [thenA_n]) | (refine wOs fun K hK => ?_; simp [b2, b2', b3, b3']) | (refine wQs fun K hK => ?_; simp [b2, b2', b3, b3']) | (refine CallK_plain ?_; simp [b2, b2', b3, b3']) | (refine CallQ_plain ?_; simp [b2, b2', b3, b3']) | (refine wRet ?_; try simp) | (refine wCond ?_; simp [b2, b2', b3, b3']) | (refine wBlock ?_) | (refine wScope ?_) | (refine wExit ?_; try simp) | (refine wSkip ?_; try simp) | (refine wOn ?_; try simp only [thenA_n]) | (refine wQn ?_; try simp only [thenA_n]) | (refine CallE.pure (hch) rfl ?_) | (refine CallE.lent (hch) rfl ?_) | (refine CallF.pure (hch) rfl ?_) | (refine CallF.lent (hch) rfl ?_) | (refine CallE.own (hch) ?_) | (refine CallE.pure (hvo) rfl ?_) | (refine CallE.lent (hvo) rfl ?_) | (refine CallF.pure (hvo) rfl ?_) | (refine CallF.lent (hvo) rfl ?_) | (refine CallE.own (hvo) ?_)
  refine wLoopG [.row 6 51 17] (fun N st => ∃ k, k + N = V.length ∧ ∃ vs : List Vt, vs.length = k ∧ (∀ i (h : i < vs.length) (h' : i < V.length), vs[i].f = V[i]) ∧ st.s 1 = .p (.sl 7 (vts l)) ∧ st.s 2 = .ptr 2 0 ∧ st.s 5 = .p (.sl 1 (ints V)) ∧ st.s 6 = .row 6 ∧
    st.b 2 = some (.box 26 [.p (I ep), .p (I cn), .p (I ck), .p (.sl 4 (mbs ms))]) ∧
    st.b 6 = some (.row 51 17 (sks (vs.map seek0))) ∧
    st.s 36 = .p (.sl 1 (ints V)) ∧ st.s 37 = .p (I V.length) ∧ st.s 38 = .p (I k)) V.length ⟨0, by simp, [], rfl, by simp, by simp [sks]⟩ fun K N st hL ⟨k, hk, vs, hvl, hvf, g1, g2, g5, g6, q2, q6, g36, g37, g38⟩ => ?_
  by_cases hlt : k < V.length
  · have hw := wrapS k _ hlt (by omega)
    have hal : vs.length ≤ 16 := by omega
    have hrm := remA_id k l.length (by omega) (by omega)
    have hrm' : (k : Int).tmod (l.length : Int) = ((k % l.length : Nat) : Int) := by rw [Int.tmod_eq_emod_of_nonneg (by omega), ← Int.natCast_emod]
    have hrl : k % l.length < l.length := Nat.mod_lt _ (by omega)
    generalize k % l.length = r at hrm hrm' hrl
    obtain ⟨m1, hm1⟩ : ∃ x, (if (100 : Int) < (l[r]).r then 100 else (l[r]).r) = x := ⟨_, rfl⟩
    obtain ⟨m2, hm2⟩ : ∃ x, (if 0 < m1 then m1 else 0) = x := ⟨_, rfl⟩
    have hb := begin_con V[k] m2 (l[r]).e (l[r]).le (l[r]).ln
    have hgs : ∀ i (h : i < (vs ++ [(⟨V[k], m2, (l[r]).e, (l[r]).le, (l[r]).ln, 0, 0⟩ : Vt)]).length) (h' : i < V.length), (vs ++ [(⟨V[k], m2, (l[r]).e, (l[r]).le, (l[r]).ln, 0, 0⟩ : Vt)])[i].f = V[i] := fun i h h' => by
      by_cases g : i < vs.length
      · rw [List.getElem_append_left g]; exact hvf i g h'
      · have e : i = vs.length := by simp at h; omega
        subst e
        rw [List.getElem_concat_length rfl]
        show V[k] = _
        congr 1; omega
    have hsn := sksA_snoc (vs.map seek0) (seek0 ⟨V[k], m2, (l[r]).e, (l[r]).le, (l[r]).ln, 0, 0⟩)
    rw [show vs.map seek0 ++ [seek0 ⟨V[k], m2, (l[r]).e, (l[r]).le, (l[r]).ln, 0, 0⟩] = (vs ++ [(⟨V[k], m2, (l[r]).e, (l[r]).le, (l[r]).ln, 0, 0⟩ : Vt)]).map seek0 by simp] at hsn
    have hvs1 : (vs ++ [(⟨V[k], m2, (l[r]).e, (l[r]).le, (l[r]).ln, 0, 0⟩ : Vt)]).length = k + 1 := by simp [hvl]
    generalize vs ++ [(⟨V[k], m2, (l[r]).e, (l[r]).le, (l[r]).ln, 0, 0⟩ : Vt)] = vs' at hgs hsn hvs1
    generalize seek0 ⟨V[k], m2, (l[r]).e, (l[r]).le, (l[r]).ln, 0, 0⟩ = s0 at hb hsn
    simp only [Sk.cells] at hb
    repeat' first | (refine And.intro (by omega) ?_) | (refine hK _ ?_; clear hK) | (refine hK _ _ ?_; clear hK) | (clear hK; refine hK _ ?_; clear hK) | (clear hK; clear hK; refine hK _ ?_; clear hK) | (clear hK; clear hK; clear hK; refine hK _ ?_; clear hK) | (clear hK; clear hK; clear hK; clear hK; refine hK _ ?_; clear hK) | (refine wSeq fun K hK => ?_) | (refine wReg ?_; simp only [List.map_cons, List.map_nil, strip]) | (refine wDrwQ rfl (by kernel_rfl) ?_; simp only [List.map_cons, List.map_nil, strip]) | (refine wDrwI ?_; simp only [List.map_cons, List.map_nil, strip]) | (refine wDrw (by kernel_rfl) ?_; simp only [List.map_cons, List.map_nil, strip]) | (refine wIs fun K hK => ?_; simp [g1, g2, g5, g6, q2, q6, g36, g37, g38, hlt, hw, b3, b3', hrm, hrm', hrl, hm1, hm2]) | (refine wIn ?_; refine And.intro (by kernel_rfl) ?_; try simp only [thenA_n]) | (refine wOs fun K hK => ?_; simp [g1, g2, g5, g6, q2, q6, g36, g37, g38, hlt, hw, b3, b3', hrm, hrm', hrl, hm1, hm2]) | (refine wQs fun K hK => ?_; simp [g1, g2, g5, g6, q2, q6, g36, g37, g38, hlt, hw, b3, b3', hrm, hrm', hrl, hm1, hm2]) | (refine CallK_plain ?_; simp [g1, g2, g5, g6, q2, q6, g36, g37, g38, hlt, hw, b3, b3', hrm, hrm', hrl, hm1, hm2]) | (refine CallQ_plain ?_; simp [g1, g2, g5, g6, q2, q6, g36, g37, g38, hlt, hw, b3, b3', hrm, hrm', hrl, hm1, hm2]) | (refine wRet ?_; try simp) | (refine wCond ?_; simp [g1, g2, g5, g6, q2, q6, g36, g37, g38, hlt, hw, b3, b3', hrm, hrm', hrl, hm1, hm2]) | (refine wBlock ?_) | (refine wScope ?_) | (refine wExit ?_; try simp) | (refine wSkip ?_; try simp) | (refine wOn ?_; try simp only [thenA_n]) | (refine wQn ?_; try simp only [thenA_n]) | (refine CallE.pure (hb) rfl ?_) | (refine CallE.lent (hb) rfl ?_) | (refine CallF.pure (hb) rfl ?_) | (refine CallF.lent (hb) rfl ?_) | (refine CallE.own (hb) ?_)
    refine hL _ (N - 1) (by omega) ⟨k + 1, by omega, vs', hvs1, hgs, ?_⟩
    simp [g1, g2, g5, g6, q2, q6, g36, g37, g38, hw, hsn]
  · obtain rfl : k = V.length := by omega
    replace hel := hel vs hvl hvf
    have hA : (vs.map seek0).length = V.length := by simp [hvl]
    have hbs := fun a k h => bst_snoc a (vs.map seek0) k h
    have hth := fun t i k h1 h2 => turn_hd hV16 vs (t := t) (i := i) (k := k) h1 h2
    have heh := fun t i h1 => end_hd hV16 vs (t := t) (i := i) h1
    generalize vs.map seek0 = A at q6 hel hA hbs hth heh
    have hA0 : 0 < A.length := by omega
    rw [getD_at hA0] at hel
    have hb0 : bst A[0].own (A.take 0) = A[0].own := rfl
    repeat' first | (refine hK _ ?_; clear hK) | (refine hK _ _ ?_; clear hK) | (clear hK; refine hK _ ?_; clear hK) | (clear hK; clear hK; refine hK _ ?_; clear hK) | (clear hK; clear hK; clear hK; refine hK _ ?_; clear hK) | (clear hK; clear hK; clear hK; clear hK; refine hK _ ?_; clear hK) | (refine wSeq fun K hK => ?_) | (refine wReg ?_; simp only [List.map_cons, List.map_nil, strip]) | (refine wDrwQ rfl (by kernel_rfl) ?_; simp only [List.map_cons, List.map_nil, strip]) | (refine wDrwI ?_; simp only [List.map_cons, List.map_nil, strip]) | (refine wDrw (by kernel_rfl) ?_; simp only [List.map_cons, List.map_nil, strip]) | (refine wIs fun K hK => ?_; simp [g1, g2, g5, g6, q2, q6, g36, g37, g38, hlt, hA, hA0, hsv]) | (refine wIn ?_; refine And.intro (by kernel_rfl) ?_; try simp only [thenA_n]) | (refine wOs fun K hK => ?_; simp [g1, g2, g5, g6, q2, q6, g36, g37, g38, hlt, hA, hA0, hsv]) | (refine wQs fun K hK => ?_; simp [g1, g2, g5, g6, q2, q6, g36, g37, g38, hlt, hA, hA0, hsv]) | (refine CallK_plain ?_; simp [g1, g2, g5, g6, q2, q6, g36, g37, g38, hlt, hA, hA0, hsv]) | (refine CallQ_plain ?_; simp [g1, g2, g5, g6, q2, q6, g36, g37, g38, hlt, hA, hA0, hsv]) | (refine wRet ?_; try simp) | (refine wCond ?_; simp [g1, g2, g5, g6, q2, q6, g36, g37, g38, hlt, hA, hA0, hsv]) | (refine wBlock ?_) | (refine wScope ?_) | (refine wExit ?_; try simp) | (refine wSkip ?_; try simp) | (refine wOn ?_; try simp only [thenA_n]) | (refine wQn ?_; try simp only [thenA_n])
    generalize hB0 : A[0].own = a0 at hel hbs hb0
    refine wLoop (fun N st => ∃ k, k + N = V.length ∧ ∃ B : Vt, B = bst a0 (A.take k) ∧ st.s 2 = .ptr 2 0 ∧ st.s 5 = .p (.sl 1 (ints V)) ∧ st.s 6 = .row 6 ∧ st.s 10 = .ptr 10 0 ∧
      st.b 2 = some (.box 26 [.p (I ep), .p (I cn), .p (I ck), .p (.sl 4 (mbs ms))]) ∧
      st.b 6 = some (.row 51 17 (sks A)) ∧
      st.b 10 = some (.box 37 [.p (I B.f), .p (I B.r), .p (I B.e), .p (I B.le), .p (I B.ln), .p (I B.c), .p (I B.m)]) ∧
      st.s 68 = .row 6 ∧ st.s 69 = .p (I V.length) ∧ st.s 70 = .p (I k)) V.length ⟨0, by simp, a0, hb0.symm, by simp [g2, g5, g6, q2, q6, hA, hB0]⟩ fun K N st hL ⟨k, hk, B, hB, g2, g5, g6, g10, q2, q6, q10, g68, g69, g70⟩ => ?_
    by_cases hlt : k < V.length
    · have hw := wrapS k _ hlt (by omega)
      have hlA : k < A.length := by omega
      have hbk := hbs a0 k hlA
      rw [← hB] at hbk
      have c1 := better17_7 A[k].own.f A[k].own.r A[k].own.e A[k].own.le A[k].own.ln A[k].own.c A[k].own.m B.f B.r B.e B.le B.ln B.c B.m
      by_cases g : better A[k].own B = true
      · rw [if_pos g] at hbk
        rw [show better ⟨A[k].own.f, A[k].own.r, A[k].own.e, A[k].own.le, A[k].own.ln, A[k].own.c, A[k].own.m⟩ ⟨B.f, B.r, B.e, B.le, B.ln, B.c, B.m⟩ = true from g] at c1
        repeat' first | (refine hK _ ?_; clear hK) | (refine hK _ _ ?_; clear hK) | (clear hK; refine hK _ ?_; clear hK) | (clear hK; clear hK; refine hK _ ?_; clear hK) | (clear hK; clear hK; clear hK; refine hK _ ?_; clear hK) | (clear hK; clear hK; clear hK; clear hK; refine hK _ ?_; clear hK) | (refine wSeq fun K hK => ?_) | (refine wReg ?_; simp only [List.map_cons, List.map_nil, strip]) | (refine wDrwQ rfl (by kernel_rfl) ?_; simp only [List.map_cons, List.map_nil, strip]) | (refine wDrwI ?_; simp only [List.map_cons, List.map_nil, strip]) | (refine wDrw (by kernel_rfl) ?_; simp only [List.map_cons, List.map_nil, strip]) | (refine wIs fun K hK => ?_; simp [g2, g5, g6, g10, q2, q6, q10, g68, g69, g70, hlt, hw, hlA, hA]) | (refine wIn ?_; refine And.intro (by kernel_rfl) ?_; try simp only [thenA_n]) | (refine wOs fun K hK => ?_; simp [g2, g5, g6, g10, q2, q6, q10, g68, g69, g70, hlt, hw, hlA, hA]) | (refine wQs fun K hK => ?_; simp [g2, g5, g6, g10, q2, q6, q10, g68, g69, g70, hlt, hw, hlA, hA]) | (refine CallK_plain ?_; simp [g2, g5, g6, g10, q2, q6, q10, g68, g69, g70, hlt, hw, hlA, hA]) | (refine CallQ_plain ?_; simp [g2, g5, g6, g10, q2, q6, q10, g68, g69, g70, hlt, hw, hlA, hA]) | (refine wRet ?_; try simp) | (refine wCond ?_; simp [g2, g5, g6, g10, q2, q6, q10, g68, g69, g70, hlt, hw, hlA, hA]) | (refine wBlock ?_) | (refine wScope ?_) | (refine wExit ?_; try simp) | (refine wSkip ?_; try simp) | (refine wOn ?_; try simp only [thenA_n]) | (refine wQn ?_; try simp only [thenA_n]) | (refine CallE.pure (c1) rfl ?_) | (refine CallE.lent (c1) rfl ?_) | (refine CallF.pure (c1) rfl ?_) | (refine CallF.lent (c1) rfl ?_) | (refine CallE.own (c1) ?_)
        refine hL _ (N - 1) (by omega) ⟨k + 1, by omega, _, hbk.symm, ?_⟩
        simp [g2, g5, g6, g10, q2, q6, q10, g68, g69, g70, hw]
      · rw [if_neg g] at hbk
        rw [show better ⟨A[k].own.f, A[k].own.r, A[k].own.e, A[k].own.le, A[k].own.ln, A[k].own.c, A[k].own.m⟩ ⟨B.f, B.r, B.e, B.le, B.ln, B.c, B.m⟩ = false from by simpa using g] at c1
        repeat' first | (refine hK _ ?_; clear hK) | (refine hK _ _ ?_; clear hK) | (clear hK; refine hK _ ?_; clear hK) | (clear hK; clear hK; refine hK _ ?_; clear hK) | (clear hK; clear hK; clear hK; refine hK _ ?_; clear hK) | (clear hK; clear hK; clear hK; clear hK; refine hK _ ?_; clear hK) | (refine wSeq fun K hK => ?_) | (refine wReg ?_; simp only [List.map_cons, List.map_nil, strip]) | (refine wDrwQ rfl (by kernel_rfl) ?_; simp only [List.map_cons, List.map_nil, strip]) | (refine wDrwI ?_; simp only [List.map_cons, List.map_nil, strip]) | (refine wDrw (by kernel_rfl) ?_; simp only [List.map_cons, List.map_nil, strip]) | (refine wIs fun K hK => ?_; simp [g2, g5, g6, g10, q2, q6, q10, g68, g69, g70, hlt, hw, hlA, hA]) | (refine wIn ?_; refine And.intro (by kernel_rfl) ?_; try simp only [thenA_n]) | (refine wOs fun K hK => ?_; simp [g2, g5, g6, g10, q2, q6, q10, g68, g69, g70, hlt, hw, hlA, hA]) | (refine wQs fun K hK => ?_; simp [g2, g5, g6, g10, q2, q6, q10, g68, g69, g70, hlt, hw, hlA, hA]) | (refine CallK_plain ?_; simp [g2, g5, g6, g10, q2, q6, q10, g68, g69, g70, hlt, hw, hlA, hA]) | (refine CallQ_plain ?_; simp [g2, g5, g6, g10, q2, q6, q10, g68, g69, g70, hlt, hw, hlA, hA]) | (refine wRet ?_; try simp) | (refine wCond ?_; simp [g2, g5, g6, g10, q2, q6, q10, g68, g69, g70, hlt, hw, hlA, hA]) | (refine wBlock ?_) | (refine wScope ?_) | (refine wExit ?_; try simp) | (refine wSkip ?_; try simp) | (refine wOn ?_; try simp only [thenA_n]) | (refine wQn ?_; try simp only [thenA_n]) | (refine CallE.pure (c1) rfl ?_) | (refine CallE.lent (c1) rfl ?_) | (refine CallF.pure (c1) rfl ?_) | (refine CallF.lent (c1) rfl ?_) | (refine CallE.own (c1) ?_)
        refine hL _ (N - 1) (by omega) ⟨k + 1, by omega, _, hbk.symm, ?_⟩
        simp [g2, g5, g6, g10, q2, q6, q10, g68, g69, g70, hw]
    · obtain rfl : k = V.length := by omega
      rw [List.take_of_length_le (by omega)] at hB
      have hwn1 : IntKind.i64.wrap ((V.length : Int) + 1) = (V.length : Int) + 1 := wrap_id (by omega) (by omega)
      repeat' first | (refine hK _ ?_; clear hK) | (refine hK _ _ ?_; clear hK) | (clear hK; refine hK _ ?_; clear hK) | (clear hK; clear hK; refine hK _ ?_; clear hK) | (clear hK; clear hK; clear hK; refine hK _ ?_; clear hK) | (clear hK; clear hK; clear hK; clear hK; refine hK _ ?_; clear hK) | (refine wSeq fun K hK => ?_) | (refine wReg ?_; simp only [List.map_cons, List.map_nil, strip]) | (refine wDrwQ rfl (by kernel_rfl) ?_; simp only [List.map_cons, List.map_nil, strip]) | (refine wDrwI ?_; simp only [List.map_cons, List.map_nil, strip]) | (refine wDrw (by kernel_rfl) ?_; simp only [List.map_cons, List.map_nil, strip]) | (refine wIs fun K hK => ?_; simp [g2, g5, g6, g10, q2, q6, q10, g68, g69, g70, hlt, hwn1]) | (refine wIn ?_; refine And.intro (by kernel_rfl) ?_; try simp only [thenA_n]) | (refine wOs fun K hK => ?_; simp [g2, g5, g6, g10, q2, q6, q10, g68, g69, g70, hlt, hwn1]) | (refine wQs fun K hK => ?_; simp [g2, g5, g6, g10, q2, q6, q10, g68, g69, g70, hlt, hwn1]) | (refine CallK_plain ?_; simp [g2, g5, g6, g10, q2, q6, q10, g68, g69, g70, hlt, hwn1]) | (refine CallQ_plain ?_; simp [g2, g5, g6, g10, q2, q6, q10, g68, g69, g70, hlt, hwn1]) | (refine wRet ?_; try simp) | (refine wCond ?_; simp [g2, g5, g6, g10, q2, q6, q10, g68, g69, g70, hlt, hwn1]) | (refine wBlock ?_) | (refine wScope ?_) | (refine wExit ?_; try simp) | (refine wSkip ?_; try simp) | (refine wOn ?_; try simp only [thenA_n]) | (refine wQn ?_; try simp only [thenA_n])
      refine wLoop (fun N st => ∃ t, t + N = V.length + 1 ∧ st.s 2 = .ptr 2 0 ∧ st.s 5 = .p (.sl 1 (ints V)) ∧ st.s 6 = .row 6 ∧ st.s 10 = .ptr 10 0 ∧
        st.b 2 = some (.box 26 [.p (I ep), .p (I cn), .p (I ck), .p (.sl 4 (mbs ms))]) ∧
        st.b 6 = some (.row 51 17 (sks (rn V A t))) ∧
        st.b 10 = some (.box 37 [.p (I B.f), .p (I B.r), .p (I B.e), .p (I B.le), .p (I B.ln), .p (I B.c), .p (I B.m)]) ∧
        st.s 83 = .p (I ((V.length : Int) + 1)) ∧ st.s 84 = .p (I t)) (V.length + 1) ⟨0, by simp, by simp [g2, g5, g6, g10, q2, q6, q10, hwn1, rn]⟩ fun K N st hL ⟨t, ht, g2, g5, g6, g10, q2, q6, q10, g83, g84⟩ => ?_
      have hrl := rn_len V A t
      rw [hA] at hrl
      by_cases htl : t < V.length + 1
      · have htl' : (t : Int) < ((V.length : Int) + 1) := by omega
        have hw := wrapS t _ htl (by omega)
        have hrs : rn V A (t + 1) = ps V (rn V A t) V.length := rfl
        have hth := fun i k h2 => hth t i k (by omega) h2
        generalize rn V A t = A1 at q6 hrl hrs hth
        repeat' first | (refine hK _ ?_; clear hK) | (refine hK _ _ ?_; clear hK) | (clear hK; refine hK _ ?_; clear hK) | (clear hK; clear hK; refine hK _ ?_; clear hK) | (clear hK; clear hK; clear hK; refine hK _ ?_; clear hK) | (clear hK; clear hK; clear hK; clear hK; refine hK _ ?_; clear hK) | (refine wSeq fun K hK => ?_) | (refine wReg ?_; simp only [List.map_cons, List.map_nil, strip]) | (refine wDrwQ rfl (by kernel_rfl) ?_; simp only [List.map_cons, List.map_nil, strip]) | (refine wDrwI ?_; simp only [List.map_cons, List.map_nil, strip]) | (refine wDrw (by kernel_rfl) ?_; simp only [List.map_cons, List.map_nil, strip]) | (refine wIs fun K hK => ?_; simp [g2, g5, g6, g10, q2, q6, q10, g83, g84, htl, htl', hw, hrl]) | (refine wIn ?_; refine And.intro (by kernel_rfl) ?_; try simp only [thenA_n]) | (refine wOs fun K hK => ?_; simp [g2, g5, g6, g10, q2, q6, q10, g83, g84, htl, htl', hw, hrl]) | (refine wQs fun K hK => ?_; simp [g2, g5, g6, g10, q2, q6, q10, g83, g84, htl, htl', hw, hrl]) | (refine CallK_plain ?_; simp [g2, g5, g6, g10, q2, q6, q10, g83, g84, htl, htl', hw, hrl]) | (refine CallQ_plain ?_; simp [g2, g5, g6, g10, q2, q6, q10, g83, g84, htl, htl', hw, hrl]) | (refine wRet ?_; try simp) | (refine wCond ?_; simp [g2, g5, g6, g10, q2, q6, q10, g83, g84, htl, htl', hw, hrl]) | (refine wBlock ?_) | (refine wScope ?_) | (refine wExit ?_; try simp) | (refine wSkip ?_; try simp) | (refine wOn ?_; try simp only [thenA_n]) | (refine wQn ?_; try simp only [thenA_n])
        refine passL V A1 t ep cn ck ms B hV16 hrl hth (fun st' hF => ?_) ⟨⟨by simp [g2], by simp [g5], by simp [g6], by simp [g10], by simp [q2], by simp [q6], by simp [q10], by simp [g83], by simp [g84]⟩, by simp [g6, q6, hrl], by simp⟩
        rw [← hrs] at hF
        obtain ⟨g2, g5, g6, g10, q2, q6, q10, g83, g84⟩ := hF
        simp only [blockA_e, if_true, thenA_n]
        repeat' first | (refine hK _ ?_; clear hK) | (refine hK _ _ ?_; clear hK) | (clear hK; refine hK _ ?_; clear hK) | (clear hK; clear hK; refine hK _ ?_; clear hK) | (clear hK; clear hK; clear hK; refine hK _ ?_; clear hK) | (clear hK; clear hK; clear hK; clear hK; refine hK _ ?_; clear hK) | (refine wSeq fun K hK => ?_) | (refine wReg ?_; simp only [List.map_cons, List.map_nil, strip]) | (refine wDrwQ rfl (by kernel_rfl) ?_; simp only [List.map_cons, List.map_nil, strip]) | (refine wDrwI ?_; simp only [List.map_cons, List.map_nil, strip]) | (refine wDrw (by kernel_rfl) ?_; simp only [List.map_cons, List.map_nil, strip]) | (refine wIs fun K hK => ?_; simp [g2, g5, g6, g10, q2, q6, q10, g83, g84, hw]) | (refine wIn ?_; refine And.intro (by kernel_rfl) ?_; try simp only [thenA_n]) | (refine wOs fun K hK => ?_; simp [g2, g5, g6, g10, q2, q6, q10, g83, g84, hw]) | (refine wQs fun K hK => ?_; simp [g2, g5, g6, g10, q2, q6, q10, g83, g84, hw]) | (refine CallK_plain ?_; simp [g2, g5, g6, g10, q2, q6, q10, g83, g84, hw]) | (refine CallQ_plain ?_; simp [g2, g5, g6, g10, q2, q6, q10, g83, g84, hw]) | (refine wRet ?_; try simp) | (refine wCond ?_; simp [g2, g5, g6, g10, q2, q6, q10, g83, g84, hw]) | (refine wBlock ?_) | (refine wScope ?_) | (refine wExit ?_; try simp) | (refine wSkip ?_; try simp) | (refine wOn ?_; try simp only [thenA_n]) | (refine wQn ?_; try simp only [thenA_n])
        refine hL _ (N - 1) (by omega) ⟨t + 1, by omega, ?_⟩
        simp [g2, g5, g6, g10, q2, q6, q10, g83, g84, hw]
      · obtain rfl : t = V.length + 1 := by omega
        have heh := fun i => heh (V.length + 1) i (Nat.le_refl _)
        rw [← hB] at hel
        generalize rn V A (V.length + 1) = FA at q6 hrl hel heh
        have hF0 : 0 < FA.length := by omega
        rw [getD_at hF0] at hel
        repeat' first | (refine hK _ ?_; clear hK) | (refine hK _ _ ?_; clear hK) | (clear hK; refine hK _ ?_; clear hK) | (clear hK; clear hK; refine hK _ ?_; clear hK) | (clear hK; clear hK; clear hK; refine hK _ ?_; clear hK) | (clear hK; clear hK; clear hK; clear hK; refine hK _ ?_; clear hK) | (refine wSeq fun K hK => ?_) | (refine wReg ?_; simp only [List.map_cons, List.map_nil, strip]) | (refine wDrwQ rfl (by kernel_rfl) ?_; simp only [List.map_cons, List.map_nil, strip]) | (refine wDrwI ?_; simp only [List.map_cons, List.map_nil, strip]) | (refine wDrw (by kernel_rfl) ?_; simp only [List.map_cons, List.map_nil, strip]) | (refine wIs fun K hK => ?_; simp [g2, g5, g6, g10, q2, q6, q10, g83, g84, htl, hrl]) | (refine wIn ?_; refine And.intro (by kernel_rfl) ?_; try simp only [thenA_n]) | (refine wOs fun K hK => ?_; simp [g2, g5, g6, g10, q2, q6, q10, g83, g84, htl, hrl]) | (refine wQs fun K hK => ?_; simp [g2, g5, g6, g10, q2, q6, q10, g83, g84, htl, hrl]) | (refine CallK_plain ?_; simp [g2, g5, g6, g10, q2, q6, q10, g83, g84, htl, hrl]) | (refine CallQ_plain ?_; simp [g2, g5, g6, g10, q2, q6, q10, g83, g84, htl, hrl]) | (refine wRet ?_; try simp) | (refine wCond ?_; simp [g2, g5, g6, g10, q2, q6, q10, g83, g84, htl, hrl]) | (refine wBlock ?_) | (refine wScope ?_) | (refine wExit ?_; try simp) | (refine wSkip ?_; try simp) | (refine wOn ?_; try simp only [thenA_n]) | (refine wQn ?_; try simp only [thenA_n])
        refine wLoop (fun N st => ∃ k, k + N = V.length ∧ st.s 2 = .ptr 2 0 ∧ st.s 6 = .row 6 ∧ st.s 10 = .ptr 10 0 ∧
          st.b 2 = some (.box 26 [.p (I ep), .p (I cn), .p (I ck), .p (.sl 4 (mbs ms))]) ∧
          st.b 6 = some (.row 51 17 (sks FA)) ∧
          st.b 10 = some (.box 37 [.p (I B.f), .p (I B.r), .p (I B.e), .p (I B.le), .p (I B.ln), .p (I B.c), .p (I B.m)]) ∧
          st.s 120 = .row 6 ∧ st.s 121 = .p (I V.length) ∧ st.s 122 = .p (I k)) V.length ⟨0, by simp, by simp [g2, g6, g10, q2, q6, q10, hrl]⟩ fun K N st hL ⟨k, hk, g2, g6, g10, q2, q6, q10, g120, g121, g122⟩ => ?_
        by_cases hkl : k < V.length
        · have hwk := wrapS k _ hkl (by omega)
          have hkF : k < FA.length := by omega
          have e1 := hel k hkl
          have e2 := heh k
          rw [getD_at hkF] at e1 e2
          obtain ⟨e3, e4, e5⟩ := e1
          have c1 := hwn FA[k] (by omega) (by omega)
          rw [if_pos e3, e3] at c1
          have e4' : (FA[k].now.c = B.c) = True := eq_true e4
          have e5' : (FA[k].rd = FA[0].rd) = True := eq_true e5
          clear e4 e5
          simp only [Sk.cells] at c1
          repeat' first | (refine hK _ ?_; clear hK) | (refine hK _ _ ?_; clear hK) | (clear hK; refine hK _ ?_; clear hK) | (clear hK; clear hK; refine hK _ ?_; clear hK) | (clear hK; clear hK; clear hK; refine hK _ ?_; clear hK) | (clear hK; clear hK; clear hK; clear hK; refine hK _ ?_; clear hK) | (refine wSeq fun K hK => ?_) | (refine wReg ?_; simp only [List.map_cons, List.map_nil, strip]) | (refine wDrwQ rfl (by kernel_rfl) ?_; simp only [List.map_cons, List.map_nil, strip]) | (refine wDrwI ?_; simp only [List.map_cons, List.map_nil, strip]) | (refine wDrw (by kernel_rfl) ?_; simp only [List.map_cons, List.map_nil, strip]) | (refine wIs fun K hK => ?_; simp [g2, g6, g10, q2, q6, q10, g120, g121, g122, hkl, hwk, hkF, hF0, e4', e5']) | (refine wIn ?_; refine And.intro (by kernel_rfl) ?_; try simp only [thenA_n]) | (refine wOs fun K hK => ?_; simp [g2, g6, g10, q2, q6, q10, g120, g121, g122, hkl, hwk, hkF, hF0, e4', e5']) | (refine wQs fun K hK => ?_; simp [g2, g6, g10, q2, q6, q10, g120, g121, g122, hkl, hwk, hkF, hF0, e4', e5']) | (refine CallK_plain ?_; simp [g2, g6, g10, q2, q6, q10, g120, g121, g122, hkl, hwk, hkF, hF0, e4', e5']) | (refine CallQ_plain ?_; simp [g2, g6, g10, q2, q6, q10, g120, g121, g122, hkl, hwk, hkF, hF0, e4', e5']) | (refine wRet ?_; try simp) | (refine wCond ?_; simp [g2, g6, g10, q2, q6, q10, g120, g121, g122, hkl, hwk, hkF, hF0, e4', e5']) | (refine wBlock ?_) | (refine wScope ?_) | (refine wExit ?_; try simp) | (refine wSkip ?_; try simp) | (refine wOn ?_; try simp only [thenA_n]) | (refine wQn ?_; try simp only [thenA_n]) | (refine CallE.pure (c1) rfl ?_) | (refine CallE.lent (c1) rfl ?_) | (refine CallF.pure (c1) rfl ?_) | (refine CallF.lent (c1) rfl ?_) | (refine CallE.own (c1) ?_)
          refine hL _ (N - 1) (by omega) ⟨k + 1, by omega, ?_⟩
          simp [g2, g6, g10, q2, q6, q10, g120, g121, g122, hwk]
        · repeat' first | (refine hK _ ?_; clear hK) | (refine hK _ _ ?_; clear hK) | (clear hK; refine hK _ ?_; clear hK) | (clear hK; clear hK; refine hK _ ?_; clear hK) | (clear hK; clear hK; clear hK; refine hK _ ?_; clear hK) | (clear hK; clear hK; clear hK; clear hK; refine hK _ ?_; clear hK) | (refine wSeq fun K hK => ?_) | (refine wReg ?_; simp only [List.map_cons, List.map_nil, strip]) | (refine wDrwQ rfl (by kernel_rfl) ?_; simp only [List.map_cons, List.map_nil, strip]) | (refine wDrwI ?_; simp only [List.map_cons, List.map_nil, strip]) | (refine wDrw (by kernel_rfl) ?_; simp only [List.map_cons, List.map_nil, strip]) | (refine wIs fun K hK => ?_; simp [g2, g6, g10, q2, q6, q10, g120, g121, g122, hkl]) | (refine wIn ?_; refine And.intro (by kernel_rfl) ?_; try simp only [thenA_n]) | (refine wOs fun K hK => ?_; simp [g2, g6, g10, q2, q6, q10, g120, g121, g122, hkl]) | (refine wQs fun K hK => ?_; simp [g2, g6, g10, q2, q6, q10, g120, g121, g122, hkl]) | (refine CallK_plain ?_; simp [g2, g6, g10, q2, q6, q10, g120, g121, g122, hkl]) | (refine CallQ_plain ?_; simp [g2, g6, g10, q2, q6, q10, g120, g121, g122, hkl]) | (refine wRet ?_; try simp) | (refine wCond ?_; simp [g2, g6, g10, q2, q6, q10, g120, g121, g122, hkl]) | (refine wBlock ?_) | (refine wScope ?_) | (refine wExit ?_; try simp) | (refine wSkip ?_; try simp) | (refine wOn ?_; try simp only [thenA_n]) | (refine wQn ?_; try simp only [thenA_n]) | (refine CallE.pure (awake18) rfl ?_) | (refine CallE.lent (awake18) rfl ?_) | (refine CallF.pure (awake18) rfl ?_) | (refine CallF.lent (awake18) rfl ?_) | (refine CallE.own (awake18) ?_)
          all_goals apply hr
          all_goals simp [Try.f10]
end Go.Proofs.Ytefhcofecdecgaa
