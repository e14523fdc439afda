/- The election of one server: elect.Begin, Hear, Winner, and the document's. -/
import Derived.Test.YtefhcofecdecgaaVT
import Derived.Test.YtefhcofecdecgaaEA
namespace Go.Proofs.Ytefhcofecdecgaa
set_option linter.unusedSimpArgs false
set_option linter.unusedVariables false
open Go Go.Av
attribute [local simp] Try.T1 Try.T2 Try.T3 Try.T4 Try.T5 Try.T9 Try.T12 Try.T21 Try.T23 Try.T24 Try.T26 Try.T27 Try.T29 Try.T30 Try.T31 Try.T32 Try.T33 Try.T34 Try.T35 Try.T37 Try.T38 Try.T39 Try.T40 Try.T41 Try.T42 Try.T43 Try.T44 Try.T45 Try.T46 Try.T47 Try.T48 Try.T49 Try.T51 Try.T52 Try.T53 Try.T55 Try.T57 Try.T58 Try.T59 Try.T60 Try.T61 Try.T62 Try.T63 Try.T64 Try.T65 Try.T66 Try.T67 Try.T69 Try.T71 Try.T72 Try.T73 Try.T74 Try.T75 Try.T76 Try.T77 Try.T78 Try.T79 Try.T80 Try.T82 Try.T83 Try.T84 Try.T85 Try.T86 Try.T87 Try.T88 Try.T89 Try.T91 Try.T92 Try.T94 Try.T95 Try.T96 Try.T97 Try.T98 Try.T99 Try.T100 Try.T101 Try.T102 Try.T103 Try.T104 Try.T105 Try.T106 Try.T107 Try.T109 Try.T110 Try.T111 Try.T112 Try.T113 Try.T114 Try.T115 Try.T116 Try.T118 Try.T119 Try.T121 Try.T122 Try.T124 Try.T125 Try.T127 Try.T128 Try.T130 Try.T132 Try.T133 Try.T135 Try.T136 Try.T137 Try.T139 Try.T141 Try.T142 Try.T143 Try.T145 Try.T147 Try.T149 Try.T150 Try.T152 Try.T154 Try.T155 Try.T156 Try.T157 Try.T158 Try.T159 Try.T160 Try.T161 Try.T162 Try.T163 Try.T164 Try.T165 Try.T166 Try.T167 Try.T168 Try.T170 Try.T172 Try.T173 Try.T174 Try.T175 Try.T176 Try.T177 Try.T178 Try.T179 Try.T180 Try.T181 Try.T182 Try.T183 Try.T184 Try.T185 Try.T186 Try.T187 Try.T188 Try.T190 Try.T191 Try.T192 Try.T193 Try.T194 Try.T195 Try.T196 Try.T198 Try.T199 Try.T200 Try.T202 Try.T203 Try.T204 Try.T205 Try.T206 Try.T207 Try.T208 Try.T209 Try.T210 Try.T211 Try.T212 Try.T218 Try.T219 Try.T222
attribute [local irreducible] Go.Av.CallK Go.Av.CallE Go.Av.CallQ Go.Av.CallF Go.Av.Con

structure Sk where
  (id rd : Int)
  (own now : Vt)
  hd : List Vt
def Sk.cells (s : Sk) : List PV := [I s.id, I s.rd, I s.own.f, I s.own.r, I s.own.e, I s.own.le, I s.own.ln, I s.own.c, I s.own.m, I s.now.f, I s.now.r, I s.now.e, I s.now.le, I s.now.ln, I s.now.c, I s.now.m, .sl 7 (vts s.hd)]
def joined (s : Sk) (r : Int) : Sk := ⟨s.id, r, ⟨s.own.f, r, s.own.e, s.own.le, s.own.ln, s.own.c, s.own.m⟩, ⟨s.own.f, r, s.own.e, s.own.le, s.own.ln, s.own.c, s.own.m⟩, []⟩
def bettered (s : Sk) (v : Vt) : Sk := ⟨s.id, s.rd, s.own, ⟨s.id, s.rd, v.e, v.le, v.ln, v.c, 1⟩, s.hd⟩
def laid (s : Sk) (v : Vt) (b : Bool) : Sk := ⟨s.id, s.rd, s.own, s.now, if b then lay (lay s.hd s.now) v else lay s.hd s.now⟩
def hear (s : Sk) (vs st : List Int) (v : Vt) : Sk × Int :=
  if v.m ≠ 1 then (s, 0) else if v.f = s.id then (s, 0) else if v.f ∉ vs then (s, 0) else if v.r < s.rd then (s, 2) else
    let s1 := if s.rd < v.r then joined s v.r else s
    if v.c ∈ st then
      if better v s1.now = true then (laid (bettered s1 v) v true, 1) else (laid s1 v true, if s.rd < v.r then 1 else 0)
    else (laid s1 v false, if s.rd < v.r then 1 else 0)
theorem better7 (a0 a1 a2 a3 a4 a5 a6 b0 b1 b2 b3 b4 b5 b6 : Int) : ACon Try.prog 68 [.p (.agg [I a0, I a1, I a2, I a3, I a4, I a5, I a6]), .p (.agg [I b0, I b1, I b2, I b3, I b4, I b5, I b6])] (.p (B (better ⟨a0, a1, a2, a3, a4, a5, a6⟩ ⟨b0, b1, b2, b3, b4, b5, b6⟩))) := better_con ⟨a0, a1, a2, a3, a4, a5, a6⟩ ⟨b0, b1, b2, b3, b4, b5, b6⟩
theorem better17_7 (a0 a1 a2 a3 a4 a5 a6 b0 b1 b2 b3 b4 b5 b6 : Int) : ACon Try.prog 39 [.p (.agg [I a0, I a1, I a2, I a3, I a4, I a5, I a6]), .p (.agg [I b0, I b1, I b2, I b3, I b4, I b5, I b6])] (.p (B (better ⟨a0, a1, a2, a3, a4, a5, a6⟩ ⟨b0, b1, b2, b3, b4, b5, b6⟩))) := better17_con ⟨a0, a1, a2, a3, a4, a5, a6⟩ ⟨b0, b1, b2, b3, b4, b5, b6⟩
theorem lay7 (l : List Vt) (a0 a1 a2 a3 a4 a5 a6 : Int) (hl : l.length ≤ 100000) : ACon Try.prog 23 [.p (.sl 7 (vts l)), .p (.agg [I a0, I a1, I a2, I a3, I a4, I a5, I a6])] (.p (.sl 7 (vts (lay l ⟨a0, a1, a2, a3, a4, a5, a6⟩)))) := lay_con l ⟨a0, a1, a2, a3, a4, a5, a6⟩ hl
theorem lay17_7 (l : List Vt) (a0 a1 a2 a3 a4 a5 a6 : Int) (hl : l.length ≤ 100000) : ACon Try.prog 24 [.p (.sl 7 (vts l)), .p (.agg [I a0, I a1, I a2, I a3, I a4, I a5, I a6])] (.p (.sl 7 (vts (lay l ⟨a0, a1, a2, a3, a4, a5, a6⟩)))) := lay17_con l ⟨a0, a1, a2, a3, a4, a5, a6⟩ hl
theorem joined_con (s : Sk) (r : Int) : ACon Try.prog 78 [.p (.agg s.cells), .p (I r)] (.p (.agg (joined s r).cells)) := by
  obtain ⟨s0, s1, ⟨p0, p1, p2, p3, p4, p5, p6⟩, ⟨q0, q1, q2, q3, q4, q5, q6⟩, hd⟩ := s
  simp only [Sk.cells, joined]
  refine wBody Try.tab Try.mixed Try.func78 rfl rfl Try.ntmps78 (by simp) (by simp) fun Q hr hn => ?_
  repeat' first | (refine hK _ ?_; clear hK) | (refine hK _ _ ?_; clear hK) | (clear hK; refine hK _ ?_; clear hK) | (clear hK; clear hK; refine hK _ ?_; clear hK) | (clear hK; clear hK; clear hK; refine hK _ ?_; clear hK) | (clear hK; clear hK; clear hK; clear hK; refine hK _ ?_; clear hK) | (refine wSeq fun K hK => ?_) | (refine wReg ?_; simp only [List.map_cons, List.map_nil, strip]) | (refine wDrwQ rfl (by kernel_rfl) ?_; simp only [List.map_cons, List.map_nil, strip]) | (refine wDrwI ?_; simp only [List.map_cons, List.map_nil, strip]) | (refine wDrw (by kernel_rfl) ?_; simp only [List.map_cons, List.map_nil, strip]) | (refine wIs fun K hK => ?_; simp) | (refine wIn ?_; refine And.intro (by kernel_rfl) ?_; try simp only [thenA_n]) | (refine wOs fun K hK => ?_; simp) | (refine wQs fun K hK => ?_; simp) | (refine CallK_plain ?_; simp) | (refine CallQ_plain ?_; simp) | (refine wRet ?_; try simp) | (refine wCond ?_; simp) | (refine wBlock ?_) | (refine wScope ?_) | (refine wExit ?_; try simp) | (refine wSkip ?_; try simp) | (refine wOn ?_; try simp only [thenA_n]) | (refine wQn ?_; try simp only [thenA_n])
  all_goals apply hr
  all_goals simp [Try.f78, vts]
def taken (s : Sk) (v : Vt) : Sk := ⟨s.id, s.rd, s.own, ⟨s.id, s.rd, v.e, v.le, v.ln, v.c, 1⟩, s.hd⟩
theorem takes_con (s : Sk) (v : Vt) : ACon Try.prog 81 [.p (.agg s.cells), .p (.agg v.cells)] (.p (.agg (taken s v).cells)) := by
  obtain ⟨s0, s1, ⟨p0, p1, p2, p3, p4, p5, p6⟩, ⟨q0, q1, q2, q3, q4, q5, q6⟩, hd⟩ := s
  obtain ⟨v0, v1, v2, v3, v4, v5, v6⟩ := v
  simp only [Sk.cells, taken, Vt.cells]
  refine wBody Try.tab Try.mixed Try.func81 rfl rfl Try.ntmps81 (by simp) (by simp) fun Q hr hn => ?_
  repeat' first | (refine hK _ ?_; clear hK) | (refine hK _ _ ?_; clear hK) | (clear hK; refine hK _ ?_; clear hK) | (clear hK; clear hK; refine hK _ ?_; clear hK) | (clear hK; clear hK; clear hK; refine hK _ ?_; clear hK) | (clear hK; clear hK; clear hK; clear hK; refine hK _ ?_; clear hK) | (refine wSeq fun K hK => ?_) | (refine wReg ?_; simp only [List.map_cons, List.map_nil, strip]) | (refine wDrwQ rfl (by kernel_rfl) ?_; simp only [List.map_cons, List.map_nil, strip]) | (refine wDrwI ?_; simp only [List.map_cons, List.map_nil, strip]) | (refine wDrw (by kernel_rfl) ?_; simp only [List.map_cons, List.map_nil, strip]) | (refine wIs fun K hK => ?_; simp) | (refine wIn ?_; refine And.intro (by kernel_rfl) ?_; try simp only [thenA_n]) | (refine wOs fun K hK => ?_; simp) | (refine wQs fun K hK => ?_; simp) | (refine CallK_plain ?_; simp) | (refine CallQ_plain ?_; simp) | (refine wRet ?_; try simp) | (refine wCond ?_; simp) | (refine wBlock ?_) | (refine wScope ?_) | (refine wExit ?_; try simp) | (refine wSkip ?_; try simp) | (refine wOn ?_; try simp only [thenA_n]) | (refine wQn ?_; try simp only [thenA_n])
  all_goals apply hr
  all_goals simp [Try.f81]
theorem has18_con (l : List Int) (n : Int) : ACon Try.prog 80 [.p (.sl 1 (ints l)), .p (I n)] (.p (B (decide (n ∈ l)))) := by
  refine ACon.len ⟨Try.f80, Try.func80, rfl, rfl⟩ 0 _ _ rfl fun hlen => ?_
  simp only [ints_len] at hlen
  refine wBody Try.tab Try.mixed Try.func80 rfl rfl Try.ntmps80 (by simp) (by simp) fun Q hr hn => ?_
  repeat' first | (refine hK _ ?_; clear hK) | (refine hK _ _ ?_; clear hK) | (clear hK; refine hK _ ?_; clear hK) | (clear hK; clear hK; refine hK _ ?_; clear hK) | (clear hK; clear hK; clear hK; refine hK _ ?_; clear hK) | (clear hK; clear hK; clear hK; clear hK; refine hK _ ?_; clear hK) | (refine wSeq fun K hK => ?_) | (refine wReg ?_; simp only [List.map_cons, List.map_nil, strip]) | (refine wDrwQ rfl (by kernel_rfl) ?_; simp only [List.map_cons, List.map_nil, strip]) | (refine wDrwI ?_; simp only [List.map_cons, List.map_nil, strip]) | (refine wDrw (by kernel_rfl) ?_; simp only [List.map_cons, List.map_nil, strip]) | (refine wIs fun K hK => ?_; simp) | (refine wIn ?_; refine And.intro (by kernel_rfl) ?_; try simp only [thenA_n]) | (refine wOs fun K hK => ?_; simp) | (refine wQs fun K hK => ?_; simp) | (refine CallK_plain ?_; simp) | (refine CallQ_plain ?_; simp) | (refine wRet ?_; try simp) | (refine wCond ?_; simp) | (refine wBlock ?_) | (refine wScope ?_) | (refine wExit ?_; try simp) | (refine wSkip ?_; try simp) | (refine wOn ?_; try simp only [thenA_n]) | (refine wQn ?_; try simp only [thenA_n])
  refine wLoop (fun N st => ∃ k, k + N = l.length ∧ st.s 1 = .p (I n) ∧ st.s 7 = .p (.sl 1 (ints l)) ∧ st.s 8 = .p (I l.length) ∧ st.s 9 = .p (I k) ∧ (n ∈ l ↔ n ∈ l.drop k)) l.length ⟨0, by simp⟩ fun K N st hL ⟨k, hk, h1, h7, h8, h9, hi⟩ => ?_
  by_cases hlt : k < l.length
  · have hw := wrapS k _ hlt hlen
    have he := ints_get hlt
    rw [List.drop_eq_getElem_cons hlt, List.mem_cons] at hi
    repeat' first | (refine hK _ ?_; clear hK) | (refine hK _ _ ?_; clear hK) | (clear hK; refine hK _ ?_; clear hK) | (clear hK; clear hK; refine hK _ ?_; clear hK) | (clear hK; clear hK; clear hK; refine hK _ ?_; clear hK) | (clear hK; clear hK; clear hK; clear hK; refine hK _ ?_; clear hK) | (refine wSeq fun K hK => ?_) | (refine wReg ?_; simp only [List.map_cons, List.map_nil, strip]) | (refine wDrwQ rfl (by kernel_rfl) ?_; simp only [List.map_cons, List.map_nil, strip]) | (refine wDrwI ?_; simp only [List.map_cons, List.map_nil, strip]) | (refine wDrw (by kernel_rfl) ?_; simp only [List.map_cons, List.map_nil, strip]) | (refine wIs fun K hK => ?_; simp [h1, h7, h8, h9, hlt, hw, he]) | (refine wIn ?_; refine And.intro (by kernel_rfl) ?_; try simp only [thenA_n]) | (refine wOs fun K hK => ?_; simp [h1, h7, h8, h9, hlt, hw, he]) | (refine wQs fun K hK => ?_; simp [h1, h7, h8, h9, hlt, hw, he]) | (refine CallK_plain ?_; simp [h1, h7, h8, h9, hlt, hw, he]) | (refine CallQ_plain ?_; simp [h1, h7, h8, h9, hlt, hw, he]) | (refine wRet ?_; try simp) | (refine wCond ?_; simp [h1, h7, h8, h9, hlt, hw, he]) | (refine wBlock ?_) | (refine wScope ?_) | (refine wExit ?_; try simp) | (refine wSkip ?_; try simp) | (refine wOn ?_; try simp only [thenA_n]) | (refine wQn ?_; try simp only [thenA_n]) | (refine And.intro (fun hc => ?_) (fun hc => ?_))
    · apply hr
      simp [Try.f80]
      rw [hi]; exact .inl hc.symm
    · refine hL _ (N - 1) (by omega) ⟨k + 1, by omega, ?_⟩
      have hc' : ¬ n = l[k] := fun h => hc h.symm
      simp [h1, h7, h8, hw]
      rw [hi]; simp [hc']
  · have hd : l.drop k = [] := List.drop_of_length_le (by omega)
    rw [hd] at hi
    repeat' first | (refine hK _ ?_; clear hK) | (refine hK _ _ ?_; clear hK) | (clear hK; refine hK _ ?_; clear hK) | (clear hK; clear hK; refine hK _ ?_; clear hK) | (clear hK; clear hK; clear hK; refine hK _ ?_; clear hK) | (clear hK; clear hK; clear hK; clear hK; refine hK _ ?_; clear hK) | (refine wSeq fun K hK => ?_) | (refine wReg ?_; simp only [List.map_cons, List.map_nil, strip]) | (refine wDrwQ rfl (by kernel_rfl) ?_; simp only [List.map_cons, List.map_nil, strip]) | (refine wDrwI ?_; simp only [List.map_cons, List.map_nil, strip]) | (refine wDrw (by kernel_rfl) ?_; simp only [List.map_cons, List.map_nil, strip]) | (refine wIs fun K hK => ?_; simp [h1, h7, h8, h9, hlt]) | (refine wIn ?_; refine And.intro (by kernel_rfl) ?_; try simp only [thenA_n]) | (refine wOs fun K hK => ?_; simp [h1, h7, h8, h9, hlt]) | (refine wQs fun K hK => ?_; simp [h1, h7, h8, h9, hlt]) | (refine CallK_plain ?_; simp [h1, h7, h8, h9, hlt]) | (refine CallQ_plain ?_; simp [h1, h7, h8, h9, hlt]) | (refine wRet ?_; try simp) | (refine wCond ?_; simp [h1, h7, h8, h9, hlt]) | (refine wBlock ?_) | (refine wScope ?_) | (refine wExit ?_; try simp) | (refine wSkip ?_; try simp) | (refine wOn ?_; try simp only [thenA_n]) | (refine wQn ?_; try simp only [thenA_n])
    apply hr
    simp [Try.f80]
    simpa using hi

end Go.Proofs.Ytefhcofecdecgaa
