/- elect.Hear: one way through it. -/
import Derived.Test.YtefhcofecdecgaaEB0
namespace Go.Proofs.Ytefhcofecdecgaa
set_option linter.unusedSimpArgs false
set_option linter.unusedVariables false
open Go Go.Av
attribute [local simp] Try.T1 Try.T2 Try.T3 Try.T4 Try.T5 Try.T9 Try.T12 Try.T21 Try.T23 Try.T24 Try.T26 Try.T27 Try.T29 Try.T30 Try.T31 Try.T32 Try.T33 Try.T34 Try.T35 Try.T37 Try.T38 Try.T39 Try.T40 Try.T41 Try.T42 Try.T43 Try.T44 Try.T45 Try.T46 Try.T47 Try.T48 Try.T49 Try.T51 Try.T52 Try.T53 Try.T55 Try.T57 Try.T58 Try.T59 Try.T60 Try.T61 Try.T62 Try.T63 Try.T64 Try.T65 Try.T66 Try.T67 Try.T69 Try.T71 Try.T72 Try.T73 Try.T74 Try.T75 Try.T76 Try.T77 Try.T78 Try.T79 Try.T80 Try.T82 Try.T83 Try.T84 Try.T85 Try.T86 Try.T87 Try.T88 Try.T89 Try.T91 Try.T92 Try.T94 Try.T95 Try.T96 Try.T97 Try.T98 Try.T99 Try.T100 Try.T101 Try.T102 Try.T103 Try.T104 Try.T105 Try.T106 Try.T107 Try.T109 Try.T110 Try.T111 Try.T112 Try.T113 Try.T114 Try.T115 Try.T116 Try.T118 Try.T119 Try.T121 Try.T122 Try.T124 Try.T125 Try.T127 Try.T128 Try.T130 Try.T132 Try.T133 Try.T135 Try.T136 Try.T137 Try.T139 Try.T141 Try.T142 Try.T143 Try.T145 Try.T147 Try.T149 Try.T150 Try.T152 Try.T154 Try.T155 Try.T156 Try.T157 Try.T158 Try.T159 Try.T160 Try.T161 Try.T162 Try.T163 Try.T164 Try.T165 Try.T166 Try.T167 Try.T168 Try.T170 Try.T172 Try.T173 Try.T174 Try.T175 Try.T176 Try.T177 Try.T178 Try.T179 Try.T180 Try.T181 Try.T182 Try.T183 Try.T184 Try.T185 Try.T186 Try.T187 Try.T188 Try.T190 Try.T191 Try.T192 Try.T193 Try.T194 Try.T195 Try.T196 Try.T198 Try.T199 Try.T200 Try.T202 Try.T203 Try.T204 Try.T205 Try.T206 Try.T207 Try.T208 Try.T209 Try.T210 Try.T211 Try.T212 Try.T218 Try.T219 Try.T222
attribute [local irreducible] Go.Av.CallK Go.Av.CallE Go.Av.CallQ Go.Av.CallF Go.Av.Con

set_option maxHeartbeats 8000000 in
theorem hear_con_D (s : Sk) (vs st : List Int) (v : Vt) (hl : s.hd.length ≤ 10000) (o1 : v.m = 1) (o2 : ¬ v.f = s.id) (o3 : v.f ∈ vs) (o4 : ¬ v.r < s.rd) (o5 : s.rd < v.r) (o6 : ¬ v.c ∈ st) : ACon Try.prog 36 [.p (.agg s.cells), .p (.sl 1 (ints vs)), .p (.sl 1 (ints st)), .p (.agg v.cells)] (.tup [.p (.agg (hear s vs st v).1.cells), .p (I (hear s vs st v).2)]) := by
  have k1 := contains_con vs v.f
  have k2 := contains_con st v.c
  have hlen : ∀ x : Vt, (lay s.hd x).length ≤ 100000 := fun x => by have := lay_le s.hd x; omega
  have hlen0 : ∀ x : Vt, (lay [] x).length ≤ 100000 := fun x => by have := lay_le [] x; simp at this; omega
  have hz : vts [] = [] := rfl
  have k8 := fun a0 a1 a2 a3 a4 a5 a6 : Int => lay7 [] a0 a1 a2 a3 a4 a5 a6 (by simp)
  simp only [hz] at k8
  have k3 := joined_con s v.r
  have k4 := (clone76 (vts s.hd) (by simp; omega)).toPure
  obtain ⟨s0, s1, ⟨p0, p1, p2, p3, p4, p5, p6⟩, ⟨q0, q1, q2, q3, q4, q5, q6⟩, hd⟩ := s
  obtain ⟨v0, v1, v2, v3, v4, v5, v6⟩ := v
  simp only [Sk.cells, Vt.cells, joined] at k1 k2 k3 hl hlen ⊢
  dsimp only [joined] at o1 o2 o3 o4 o5 o6
  subst o1
  rw [decide_eq_true o3] at k1
  rw [decide_eq_false o6] at k2
  simp only [hear, joined, bettered, laid, o2, o3, o4, o5, o6, ne_eq, not_true_eq_false, not_false_eq_true, if_true, if_false, Bool.false_eq_true, reduceIte]
  refine wBody Try.tab Try.mixed Try.func36 rfl rfl Try.ntmps36 (by simp) (by simp) fun Q hr hn => ?_
  repeat' first | (refine And.intro (by omega) (Or.inr ?_)) | (refine hK _ ?_; clear hK) | (refine hK _ _ ?_; clear hK) | (clear hK; refine hK _ ?_; clear hK) | (clear hK; clear hK; refine hK _ ?_; clear hK) | (clear hK; clear hK; clear hK; refine hK _ ?_; clear hK) | (clear hK; clear hK; clear hK; clear hK; refine hK _ ?_; clear hK) | (refine wSeq fun K hK => ?_) | (refine wReg ?_; simp only [List.map_cons, List.map_nil, strip]) | (refine wDrwQ rfl (by kernel_rfl) ?_; simp only [List.map_cons, List.map_nil, strip]) | (refine wDrwI ?_; simp only [List.map_cons, List.map_nil, strip]) | (refine wDrw (by kernel_rfl) ?_; simp only [List.map_cons, List.map_nil, strip]) | (refine wIs fun K hK => ?_; simp [o2, o3, o4, o5, o6, hz]) | (refine wIn ?_; refine And.intro (by kernel_rfl) ?_; try simp only [thenA_n]) | (refine wOs fun K hK => ?_; simp [o2, o3, o4, o5, o6, hz]) | (refine wQs fun K hK => ?_; simp [o2, o3, o4, o5, o6, hz]) | (refine CallK_plain ?_; simp [o2, o3, o4, o5, o6, hz]) | (refine CallQ_plain ?_; simp [o2, o3, o4, o5, o6, hz]) | (refine wRet ?_; try simp) | (refine wCond ?_; simp [o2, o3, o4, o5, o6, hz]) | (refine wBlock ?_) | (refine wScope ?_) | (refine wExit ?_; try simp) | (refine wSkip ?_; try simp) | (refine wOn ?_; try simp only [thenA_n]) | (refine wQn ?_; try simp only [thenA_n]) | (refine CallE.pure (k1) rfl ?_) | (refine CallE.lent (k1) rfl ?_) | (refine CallF.pure (k1) rfl ?_) | (refine CallF.lent (k1) rfl ?_) | (refine CallE.own (k1) ?_) | (refine CallE.pure (k2) rfl ?_) | (refine CallE.lent (k2) rfl ?_) | (refine CallF.pure (k2) rfl ?_) | (refine CallF.lent (k2) rfl ?_) | (refine CallE.own (k2) ?_) | (refine CallE.pure (k3) rfl ?_) | (refine CallE.lent (k3) rfl ?_) | (refine CallF.pure (k3) rfl ?_) | (refine CallF.lent (k3) rfl ?_) | (refine CallE.own (k3) ?_) | (refine CallE.pure (k4) rfl ?_) | (refine CallE.lent (k4) rfl ?_) | (refine CallF.pure (k4) rfl ?_) | (refine CallF.lent (k4) rfl ?_) | (refine CallE.own (k4) ?_) | (refine CallE.pure (k5) rfl ?_) | (refine CallE.lent (k5) rfl ?_) | (refine CallF.pure (k5) rfl ?_) | (refine CallF.lent (k5) rfl ?_) | (refine CallE.own (k5) ?_) | (refine CallE.pure (k8 _ _ _ _ _ _ _) rfl ?_) | (refine CallE.lent (k8 _ _ _ _ _ _ _) rfl ?_) | (refine CallF.pure (k8 _ _ _ _ _ _ _) rfl ?_) | (refine CallF.lent (k8 _ _ _ _ _ _ _) rfl ?_) | (refine CallE.own (k8 _ _ _ _ _ _ _) ?_) | (refine CallE.pure (lay7 _ _ _ _ _ _ _ _ (by first | omega | exact hlen _ | exact hlen0 _ | simp)) rfl ?_) | (refine CallE.lent (lay7 _ _ _ _ _ _ _ _ (by first | omega | exact hlen _ | exact hlen0 _ | simp)) rfl ?_) | (refine CallF.pure (lay7 _ _ _ _ _ _ _ _ (by first | omega | exact hlen _ | exact hlen0 _ | simp)) rfl ?_) | (refine CallF.lent (lay7 _ _ _ _ _ _ _ _ (by first | omega | exact hlen _ | exact hlen0 _ | simp)) rfl ?_) | (refine CallE.own (lay7 _ _ _ _ _ _ _ _ (by first | omega | exact hlen _ | exact hlen0 _ | simp)) ?_)
  all_goals apply hr
  all_goals simp [Try.f36, hz, o2, o3, o4, o5, o6]
end Go.Proofs.Ytefhcofecdecgaa
