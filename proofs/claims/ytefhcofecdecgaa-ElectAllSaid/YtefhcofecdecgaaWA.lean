/- Votes: what is the same cause. -/
import Derived.Test.YtefhcofecdecgaaTab
import Derived.Test.YtefhcofecdecgaaAvSimp
namespace Go.Proofs.Ytefhcofecdecgaa
set_option linter.unusedSimpArgs false
set_option linter.unusedVariables false
open Go Go.Av
attribute [local simp] Try.T1 Try.T2 Try.T3 Try.T4 Try.T5 Try.T9 Try.T12 Try.T21 Try.T23 Try.T24 Try.T26 Try.T27 Try.T29 Try.T30 Try.T31 Try.T32 Try.T33 Try.T34 Try.T35 Try.T37 Try.T38 Try.T39 Try.T40 Try.T41 Try.T42 Try.T43 Try.T44 Try.T45 Try.T46 Try.T47 Try.T48 Try.T49 Try.T51 Try.T52 Try.T53 Try.T55 Try.T57 Try.T58 Try.T59 Try.T60 Try.T61 Try.T62 Try.T63 Try.T64 Try.T65 Try.T66 Try.T67 Try.T69 Try.T71 Try.T72 Try.T73 Try.T74 Try.T75 Try.T76 Try.T77 Try.T78 Try.T79 Try.T80 Try.T82 Try.T83 Try.T84 Try.T85 Try.T86 Try.T87 Try.T88 Try.T89 Try.T91 Try.T92 Try.T94 Try.T95 Try.T96 Try.T97 Try.T98 Try.T99 Try.T100 Try.T101 Try.T102 Try.T103 Try.T104 Try.T105 Try.T106 Try.T107 Try.T109 Try.T110 Try.T111 Try.T112 Try.T113 Try.T114 Try.T115 Try.T116 Try.T118 Try.T119 Try.T121 Try.T122 Try.T124 Try.T125 Try.T127 Try.T128 Try.T130 Try.T132 Try.T133 Try.T135 Try.T136 Try.T137 Try.T139 Try.T141 Try.T142 Try.T143 Try.T145 Try.T147 Try.T149 Try.T150 Try.T152 Try.T154 Try.T155 Try.T156 Try.T157 Try.T158 Try.T159 Try.T160 Try.T161 Try.T162 Try.T163 Try.T164 Try.T165 Try.T166 Try.T167 Try.T168 Try.T170 Try.T172 Try.T173 Try.T174 Try.T175 Try.T176 Try.T177 Try.T178 Try.T179 Try.T180 Try.T181 Try.T182 Try.T183 Try.T184 Try.T185 Try.T186 Try.T187 Try.T188 Try.T190 Try.T191 Try.T192 Try.T193 Try.T194 Try.T195 Try.T196 Try.T198 Try.T199 Try.T200 Try.T202 Try.T203 Try.T204 Try.T205 Try.T206 Try.T207 Try.T208 Try.T209 Try.T210 Try.T211 Try.T212 Try.T218 Try.T219 Try.T222
attribute [local irreducible] Go.Av.CallK Go.Av.CallE Go.Av.CallQ Go.Av.CallF Go.Av.Con

structure Vt where
  (f r e le ln c m : Int)
  deriving DecidableEq
def Vt.cells (v : Vt) : List PV := [I v.f, I v.r, I v.e, I v.le, I v.ln, I v.c, I v.m]
def cause (a b : Vt) : Bool := decide (a.r = b.r ∧ a.e = b.e ∧ a.le = b.le ∧ a.ln = b.ln ∧ a.c = b.c)
set_option maxHeartbeats 4000000 in
theorem sameCause_con (a b : Vt) : ACon Try.prog 73 [.p (.agg a.cells), .p (.agg b.cells)] (.p (B (cause a b))) := by
  obtain ⟨a0, a1, a2, a3, a4, a5, a6⟩ := a
  obtain ⟨b0, b1, b2, b3, b4, b5, b6⟩ := b
  simp only [Vt.cells, cause]
  refine wBody Try.tab Try.mixed Try.func73 rfl rfl Try.ntmps73 (by simp) (by simp) fun Q hr hn => ?_
  repeat' first | (refine wDrwA ?_) | (refine wTs (by decide +kernel) ?_) | (refine wTz (by decide +kernel) ?_) | (refine And.intro (skipT (by decide +kernel)) ?_) | (refine And.intro (fun _ => ?_) ?_; simp only [strip]) | (exact True.intro) | (refine hK _ ?_; clear hK) | (refine hK _ _ ?_; clear hK) | (clear hK; refine hK _ ?_; clear hK) | (clear hK; clear hK; refine hK _ ?_; clear hK) | (clear hK; clear hK; clear hK; refine hK _ ?_; clear hK) | (clear hK; clear hK; clear hK; clear hK; refine hK _ ?_; clear hK) | (refine wSeq fun K hK => ?_) | (refine wReg ?_; simp only [List.map_cons, List.map_nil, strip]) | (refine wDrwQ rfl (by kernel_rfl) ?_; simp only [List.map_cons, List.map_nil, strip]) | (refine wDrwI ?_; simp only [List.map_cons, List.map_nil, strip]) | (refine wDrw (by kernel_rfl) ?_; simp only [List.map_cons, List.map_nil, strip]) | (refine wIs fun K hK => ?_; simp) | (refine wIn ?_; refine And.intro (by kernel_rfl) ?_; try simp only [thenA_n]) | (refine wOs fun K hK => ?_; simp) | (refine wQs fun K hK => ?_; simp) | (refine CallK_plain ?_; simp) | (refine CallQ_plain ?_; simp) | (refine wRet ?_; try simp) | (refine wCond ?_; simp) | (refine wBlock ?_) | (refine wScope ?_) | (refine wExit ?_; try simp) | (refine wSkip ?_; try simp) | (refine wOn ?_; try simp only [thenA_n]) | (refine wQn ?_; try simp only [thenA_n])
  all_goals apply hr
  all_goals simp [Try.f73]
  all_goals (rw [Bool.eq_iff_iff]; simp)
end Go.Proofs.Ytefhcofecdecgaa
