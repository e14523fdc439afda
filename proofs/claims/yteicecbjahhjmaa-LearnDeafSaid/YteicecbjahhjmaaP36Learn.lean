/- Texts that the proof needs: LN7 LN8 Awm LN9. -/
import Derived.Test.YteicecbjahhjmaaP32Learn
import Derived.Test.YteicecbjahhjmaaP33Learn
import Derived.Test.YteicecbjahhjmaaP34Learn
import Derived.Test.YteicecbjahhjmaaP35Learn
import Derived.Test.YteicecbjahhjmaaP29Learn
import Derived.Test.YteicecbjahhjmaaP19Learn
import Derived.Test.YteicecbjahhjmaaP14Learn
import Derived.Test.YteicecbjahhjmaaP18Learn
import Derived.Test.YteicecbjahhjmaaP22Learn
import Derived.WalkKit
import Derived.Test.YteicecbjahhjmaaP31Learn
/- Learners: a message heard, whichever. -/
namespace Go.Proofs.Yteicecbjahhjmaa
set_option linter.unusedSimpArgs false
set_option linter.unusedVariables false
set_option maxRecDepth 8000
open Go Go.Av
attribute [local simp] Try.T1 Try.T2 Try.T3 Try.T4 Try.T5 Try.T9 Try.T12 Try.T15 Try.T16 Try.T17 Try.T21 Try.T22 Try.T23 Try.T25 Try.T26 Try.T28 Try.T30 Try.T31 Try.T33 Try.T35 Try.T36 Try.T37 Try.T38 Try.T39 Try.T41 Try.T42 Try.T44 Try.T45 Try.T47 Try.T48 Try.T50 Try.T51 Try.T52 Try.T54 Try.T55 Try.T56 Try.T58 Try.T59 Try.T61 Try.T63 Try.T65 Try.T67 Try.T68 Try.T69 Try.T70 Try.T72 Try.T73 Try.T74 Try.T75 Try.T76 Try.T77 Try.T78 Try.T79 Try.T80 Try.T81 Try.T83 Try.T84 Try.T85 Try.T87 Try.T88 Try.T89 Try.T90 Try.T91 Try.T92 Try.T93 Try.T94 Try.T95 Try.T96 Try.T97 Try.T98 Try.T99 Try.T101 Try.T103 Try.T104 Try.T105 Try.T106 Try.T107 Try.T108 Try.T109 Try.T110 Try.T111 Try.T113 Try.T114 Try.T115 Try.T116 Try.T117 Try.T118 Try.T119 Try.T120 Try.T121 Try.T122 Try.T123 Try.T124 Try.T125 Try.T126 Try.T127 Try.T128 Try.T129 Try.T130 Try.T131 Try.T132 Try.T133 Try.T134 Try.T135 Try.T137 Try.T138 Try.T139 Try.T140 Try.T141 Try.T142 Try.T143 Try.T144 Try.T145 Try.T146 Try.T147 Try.T148 Try.T149 Try.T150 Try.T153 Try.T156 Try.T157 Try.T160 Try.T161 Try.T167
attribute [local irreducible] Go.Av.CallK Go.Av.CallE Go.Av.CallQ Go.Av.CallF Go.Av.CallR Go.Av.CallH Go.Av.Con
theorem hear0_con (p p' : Lp) (m : Mg) (F : FuncId) (g : Bool) (hk : OkH p.h) (hf : hearOK p m) (hF : doingF p.ph m.kd = F) (c3 : Con Try.prog F [.ptr 1024 0, .p (.agg m.cells)] (sW p false) (.ret (.tup []) [] (sW p' g))) : ACon Try.prog 20 [.p (.agg p.cells), .p (.agg m.cells)] (.tup [.p (.agg p'.cells), .p (.sl 46 []), .p (B (!g))]) := by
  by_cases f4 : m.kd = 3
  · exact hear0a_con p p' m F g hk f4 hf hF c3
  · exact hear0b_con p p' m F g hk f4 hf hF c3
theorem hear1_con (p p' : Lp) (m : Mg) (F : FuncId) (mm : List PV) (hk : OkH p.h) (hf : hearOK p m) (hF : doingF p.ph m.kd = F) (c3 : Con Try.prog F [.ptr 1024 0, .p (.agg m.cells)] (sW p false) (.ret (.tup []) [.row 65 46 [mm]] (sW1 p' false))) : ACon Try.prog 20 [.p (.agg p.cells), .p (.agg m.cells)] (.tup [.p (.agg p'.cells), .p (.sl 46 [mm]), .p (B true)]) := by
  by_cases f4 : m.kd = 3
  · exact hear1a_con p p' m F mm hk f4 hf hF c3
  · exact hear1b_con p p' m F mm hk f4 hf hF c3
/- Learners: what any message comes to. -/
theorem uptoH_lg (h : Hy) (z : Zx) : (uptoH h z).lg.length ≤ h.lg.length := by
  unfold uptoH
  split
  · rw [List.length_take]; omega
  · exact Nat.le_refl _
theorem doH_lg (h : Hy) (kd : Int) (z : Zx) (l : List Tx) : (doH h kd z l).1.lg.length ≤ h.lg.length + l.length := by
  have hu : (if kd = 2 then uptoH h z else h).lg.length ≤ h.lg.length := by
    split
    · exact uptoH_lg h z
    · exact Nat.le_refl _
  unfold doH
  by_cases q1 : kd = 2 ∧ plc z (mks h) 0 = none
  · rw [if_pos q1]; simp only; omega
  rw [if_neg q1]
  by_cases q2 : growOk (if kd = 2 then uptoH h z else h) l = true
  · rw [if_pos q2]; simp only [List.length_append]; omega
  · rw [if_neg q2]; simp only; omega
theorem doG_lg (h : Hy) (kd : Int) (z : Zx) (im : Sv) (l : List Tx) : (doG h kd z im l).1.lg.length ≤ h.lg.length + l.length := by
  unfold doG
  by_cases h12 : kd = 1 ∨ kd = 2
  · rw [if_pos h12]; exact doH_lg h kd z l
  rw [if_neg h12]
  by_cases h3 : kd = 3
  · rw [if_pos h3]
    by_cases q : growOk ⟨im, []⟩ l = true
    · simp only [if_pos q]; omega
    · simp only [if_neg q]; omega
  · rw [if_neg h3]; simp only; omega
theorem hear_con (p : Lp) (m : Mg) (hk : OkH p.h) (hm : OkM m) (hl : p.h.lg.length + m.pl.length ≤ 999) : ACon Try.prog 20 [.p (.agg p.cells), .p (.agg m.cells)] (hearR p m).out := by
  have hl1 : p.h.lg.length ≤ 999 := by omega
  unfold hearR
  by_cases hf : hearOK p m
  case neg => rw [if_neg hf]; exact hearN_con p m hk hf
  rw [if_pos hf]
  by_cases h1 : p.ph = 1
  · rw [if_pos h1]
    by_cases k3 : m.kd = 3
    · rw [if_pos k3]
      have e : doingF p.ph m.kd = 49 := by unfold doingF; rw [if_pos h1, if_pos k3]
      unfold promR
      by_cases ho : owner m.ep = p.ld
      · rw [if_pos ho]
        by_cases ha : m.ep < p.ac
        · rw [if_pos ha]; exact hear0_con p p m _ true hk hf e (promiseG_con p m false ho ha)
        · rw [if_neg ha]; exact hear1_con p _ m _ _ hk hf e (promise1_con p m false (by omega) ho ha)
      · rw [if_neg ho]; exact hear0_con p p m _ false hk hf e (promise0_con p m false ho)
    · rw [if_neg k3]; exact hear0_con p p m _ false hk hf (by unfold doingF; rw [if_pos h1, if_neg k3]) (nothing_con p m false)
  rw [if_neg h1]
  by_cases h2 : p.ph = 2
  · rw [if_pos h2]
    by_cases k5 : m.kd = 5
    · rw [if_pos k5]
      have e : doingF p.ph m.kd = 50 := by unfold doingF; rw [if_neg h1, if_pos h2, if_pos k5]
      unfold syncR
      by_cases he : (planOf p.h m).2 = 0
      · rw [if_pos he]; exact hear1_con p _ m _ _ hk hf e (sync1_con p m false hk hm he (by have := doG_lg p.h m.pk m.pz m.pim m.pl; unfold planOf; omega))
      · rw [if_neg he]; exact hear0_con p p m _ true hk hf e (syncG_con p m false hk hm he)
    · rw [if_neg k5]; exact hear0_con p p m _ false hk hf (by unfold doingF; rw [if_neg h1, if_pos h2, if_neg k5]) (nothing_con p m false)
  rw [if_neg h2]
  by_cases h34 : p.ph = 3 ∨ p.ph = 4
  case neg => rw [if_neg h34]; exact hear0_con p p m _ false hk hf (by unfold doingF; rw [if_neg h1, if_neg h2, if_neg h34]) (nothing_con p m false)
  rw [if_pos h34]
  have e0 : doingF p.ph m.kd = followF m.kd := by unfold doingF; rw [if_neg h1, if_neg h2, if_pos h34]
  unfold followR
  by_cases k8 : m.kd = 8
  · rw [if_pos k8]
    have e : doingF p.ph m.kd = 62 := by rw [e0]; unfold followF; rw [if_pos k8]
    unfold propR
    by_cases hg : growOk p.h [m.tx] = true
    · rw [if_pos hg]; exact hear1_con p _ m _ _ hk hf e (propose1_con p m false hk hm.tx hg)
    · rw [if_neg hg]; exact hear0_con p _ m _ false hk hf e (propose0_con p m false hk hm.tx (by simpa using hg))
  rw [if_neg k8]
  by_cases k11 : m.kd = 11
  · rw [if_pos k11]; exact hear0_con p _ m _ false hk hf (by rw [e0]; unfold followF; rw [if_neg k8, if_pos k11]) (inform_con p m false hk hl1 hm.tx)
  rw [if_neg k11]
  by_cases k7 : m.kd = 7
  · rw [if_pos k7]; exact hear0_con p _ m _ false hk hf (by rw [e0]; unfold followF; rw [if_neg k8, if_neg k11, if_pos k7]) (ready_con p m false (by omega))
  rw [if_neg k7]
  by_cases k10 : m.kd = 10
  · rw [if_pos k10]; exact hear0_con p _ m _ false hk hf (by rw [e0]; unfold followF; rw [if_neg k8, if_neg k11, if_neg k7, if_pos k10]) (commit_con p m false (by omega))
  rw [if_neg k10]
  by_cases k12 : m.kd = 12
  · rw [if_pos k12]; exact hear1_con p _ m _ _ hk hf (by rw [e0]; unfold followF; rw [if_neg k8, if_neg k11, if_neg k7, if_neg k10, if_pos k12]) (ping_con p m false)
  · rw [if_neg k12]; exact hear0_con p p m _ false hk hf (by rw [e0]; unfold followF; rw [if_neg k8, if_neg k11, if_neg k7, if_neg k10, if_neg k12]) (nothing_con p m false)
end Go.Proofs.Yteicecbjahhjmaa
/- The closed calls (awake), run. -/
namespace Go.Proofs.Yteicecbjahhjmaa
set_option linter.unusedSimpArgs false
set_option linter.unusedVariables false
open Go Go.Av
attribute [local simp] Try.T1 Try.T2 Try.T3 Try.T4 Try.T5 Try.T9 Try.T12 Try.T15 Try.T16 Try.T17 Try.T21 Try.T22 Try.T23 Try.T25 Try.T26 Try.T28 Try.T30 Try.T31 Try.T33 Try.T35 Try.T36 Try.T37 Try.T38 Try.T39 Try.T41 Try.T42 Try.T44 Try.T45 Try.T47 Try.T48 Try.T50 Try.T51 Try.T52 Try.T54 Try.T55 Try.T56 Try.T58 Try.T59 Try.T61 Try.T63 Try.T65 Try.T67 Try.T68 Try.T69 Try.T70 Try.T72 Try.T73 Try.T74 Try.T75 Try.T76 Try.T77 Try.T78 Try.T79 Try.T80 Try.T81 Try.T83 Try.T84 Try.T85 Try.T87 Try.T88 Try.T89 Try.T90 Try.T91 Try.T92 Try.T93 Try.T94 Try.T95 Try.T96 Try.T97 Try.T98 Try.T99 Try.T101 Try.T103 Try.T104 Try.T105 Try.T106 Try.T107 Try.T108 Try.T109 Try.T110 Try.T111 Try.T113 Try.T114 Try.T115 Try.T116 Try.T117 Try.T118 Try.T119 Try.T120 Try.T121 Try.T122 Try.T123 Try.T124 Try.T125 Try.T126 Try.T127 Try.T128 Try.T129 Try.T130 Try.T131 Try.T132 Try.T133 Try.T134 Try.T135 Try.T137 Try.T138 Try.T139 Try.T140 Try.T141 Try.T142 Try.T143 Try.T144 Try.T145 Try.T146 Try.T147 Try.T148 Try.T149 Try.T150 Try.T153 Try.T156 Try.T157 Try.T160 Try.T161 Try.T167
attribute [local irreducible] Go.Av.CallK Go.Av.CallE Go.Av.CallQ Go.Av.CallF Go.Av.CallR Go.Av.CallH Go.Av.Con
theorem clone68 (l : List (List PV)) (hl : l.length ≤ 1000000) : RCon 68 [.p (.sl 7 l)] 41 7 l := by
  refine wBodyR Try.tab Try.mixed Try.func68 rfl rfl Try.ntmps68 rfl (by simp) (by simp) fun Q hr hn => ?_
  repeat' first | (refine wRetG [.row 2 41 7] ?_) | (refine And.intro (by omega) (Or.inl ?_)) | (refine And.intro ?_ (fun hnil => ?_)) | (refine hK _ ?_; clear hK) | (refine hK _ _ ?_; clear hK) | (clear hK; refine hK _ ?_; clear hK) | (clear hK; clear hK; refine hK _ ?_; clear hK) | (clear hK; clear hK; clear hK; refine hK _ ?_; clear hK) | (clear hK; clear hK; clear hK; clear hK; refine hK _ ?_; clear hK) | (refine wSeq fun K hK => ?_) | ((first | refine wReg ?_ | refine wDrwQ rfl (by kernel_rfl) ?_ | refine wDrwI ?_ | refine wDrw (by kernel_rfl) ?_); simp only [List.map_cons, List.map_nil, strip]) | ((first | refine wIs fun K hK => ?_ | refine wOs fun K hK => ?_ | refine wQs fun K hK => ?_ | refine CallK_plain ?_ | refine CallQ_plain ?_ | refine CallR_plain ?_ | refine wCond ?_); simp) | (refine wIn ?_; refine And.intro (by kernel_rfl) ?_; try simp only [thenA_n]) | (first | refine wBlock ?_ | refine wScope ?_) | ((first | refine wRet ?_ | refine wExit ?_ | refine wSkip ?_); try simp) | ((first | refine wLabel ?_ | refine wOn ?_ | refine wQn ?_); try simp only [thenA_n])
  · refine hr _ 7 (by simp) (by simp) (by omega)
  · subst hnil
    simp only [thenA_r]
    refine hr _ 2 (by simp) (by simp) (by omega)
theorem clone86 (l : List (List PV)) (hl : l.length ≤ 1000000) : RCon 86 [.p (.sl 2 l)] 25 2 l := by
  refine wBodyR Try.tab Try.mixed Try.func86 rfl rfl Try.ntmps86 rfl (by simp) (by simp) fun Q hr hn => ?_
  repeat' first | (refine wRetG [.row 2 25 2] ?_) | (refine And.intro (by omega) (Or.inl ?_)) | (refine And.intro ?_ (fun hnil => ?_)) | (refine hK _ ?_; clear hK) | (refine hK _ _ ?_; clear hK) | (clear hK; refine hK _ ?_; clear hK) | (clear hK; clear hK; refine hK _ ?_; clear hK) | (clear hK; clear hK; clear hK; refine hK _ ?_; clear hK) | (clear hK; clear hK; clear hK; clear hK; refine hK _ ?_; clear hK) | (refine wSeq fun K hK => ?_) | ((first | refine wReg ?_ | refine wDrwQ rfl (by kernel_rfl) ?_ | refine wDrwI ?_ | refine wDrw (by kernel_rfl) ?_); simp only [List.map_cons, List.map_nil, strip]) | ((first | refine wIs fun K hK => ?_ | refine wOs fun K hK => ?_ | refine wQs fun K hK => ?_ | refine CallK_plain ?_ | refine CallQ_plain ?_ | refine CallR_plain ?_ | refine wCond ?_); simp) | (refine wIn ?_; refine And.intro (by kernel_rfl) ?_; try simp only [thenA_n]) | (first | refine wBlock ?_ | refine wScope ?_) | ((first | refine wRet ?_ | refine wExit ?_ | refine wSkip ?_); try simp) | ((first | refine wLabel ?_ | refine wOn ?_ | refine wQn ?_); try simp only [thenA_n])
  · refine hr _ 7 (by simp) (by simp) (by omega)
  · subst hnil
    simp only [thenA_r]
    refine hr _ 2 (by simp) (by simp) (by omega)
theorem clone94 (l : List (List PV)) (hl : l.length ≤ 1000000) : RCon 94 [.p (.sl 5 l)] 101 5 l := by
  refine wBodyR Try.tab Try.mixed Try.func94 rfl rfl Try.ntmps94 rfl (by simp) (by simp) fun Q hr hn => ?_
  repeat' first | (refine wRetG [.row 2 101 5] ?_) | (refine And.intro (by omega) (Or.inl ?_)) | (refine And.intro ?_ (fun hnil => ?_)) | (refine hK _ ?_; clear hK) | (refine hK _ _ ?_; clear hK) | (clear hK; refine hK _ ?_; clear hK) | (clear hK; clear hK; refine hK _ ?_; clear hK) | (clear hK; clear hK; clear hK; refine hK _ ?_; clear hK) | (clear hK; clear hK; clear hK; clear hK; refine hK _ ?_; clear hK) | (refine wSeq fun K hK => ?_) | ((first | refine wReg ?_ | refine wDrwQ rfl (by kernel_rfl) ?_ | refine wDrwI ?_ | refine wDrw (by kernel_rfl) ?_); simp only [List.map_cons, List.map_nil, strip]) | ((first | refine wIs fun K hK => ?_ | refine wOs fun K hK => ?_ | refine wQs fun K hK => ?_ | refine CallK_plain ?_ | refine CallQ_plain ?_ | refine CallR_plain ?_ | refine wCond ?_); simp) | (refine wIn ?_; refine And.intro (by kernel_rfl) ?_; try simp only [thenA_n]) | (first | refine wBlock ?_ | refine wScope ?_) | ((first | refine wRet ?_ | refine wExit ?_ | refine wSkip ?_); try simp) | ((first | refine wLabel ?_ | refine wOn ?_ | refine wQn ?_); try simp only [thenA_n])
  · refine hr _ 7 (by simp) (by simp) (by omega)
  · subst hnil
    simp only [thenA_r]
    refine hr _ 2 (by simp) (by simp) (by omega)
theorem clone95 (l : List (List PV)) (hl : l.length ≤ 1000000) : RCon 95 [.p (.sl 1 l)] 3 1 l := by
  refine wBodyR Try.tab Try.mixed Try.func95 rfl rfl Try.ntmps95 rfl (by simp) (by simp) fun Q hr hn => ?_
  repeat' first | (refine wRetG [.row 2 3 1] ?_) | (refine And.intro (by omega) (Or.inl ?_)) | (refine And.intro ?_ (fun hnil => ?_)) | (refine hK _ ?_; clear hK) | (refine hK _ _ ?_; clear hK) | (clear hK; refine hK _ ?_; clear hK) | (clear hK; clear hK; refine hK _ ?_; clear hK) | (clear hK; clear hK; clear hK; refine hK _ ?_; clear hK) | (clear hK; clear hK; clear hK; clear hK; refine hK _ ?_; clear hK) | (refine wSeq fun K hK => ?_) | ((first | refine wReg ?_ | refine wDrwQ rfl (by kernel_rfl) ?_ | refine wDrwI ?_ | refine wDrw (by kernel_rfl) ?_); simp only [List.map_cons, List.map_nil, strip]) | ((first | refine wIs fun K hK => ?_ | refine wOs fun K hK => ?_ | refine wQs fun K hK => ?_ | refine CallK_plain ?_ | refine CallQ_plain ?_ | refine CallR_plain ?_ | refine wCond ?_); simp) | (refine wIn ?_; refine And.intro (by kernel_rfl) ?_; try simp only [thenA_n]) | (first | refine wBlock ?_ | refine wScope ?_) | ((first | refine wRet ?_ | refine wExit ?_ | refine wSkip ?_); try simp) | ((first | refine wLabel ?_ | refine wOn ?_ | refine wQn ?_); try simp only [thenA_n])
  · refine hr _ 7 (by simp) (by simp) (by omega)
  · subst hnil
    simp only [thenA_r]
    refine hr _ 2 (by simp) (by simp) (by omega)
theorem clone102 (l : List (List PV)) (hl : l.length ≤ 1000000) : RCon 102 [.p (.sl 4 l)] 83 4 l := by
  refine wBodyR Try.tab Try.mixed Try.func102 rfl rfl Try.ntmps102 rfl (by simp) (by simp) fun Q hr hn => ?_
  repeat' first | (refine wRetG [.row 2 83 4] ?_) | (refine And.intro (by omega) (Or.inl ?_)) | (refine And.intro ?_ (fun hnil => ?_)) | (refine hK _ ?_; clear hK) | (refine hK _ _ ?_; clear hK) | (clear hK; refine hK _ ?_; clear hK) | (clear hK; clear hK; refine hK _ ?_; clear hK) | (clear hK; clear hK; clear hK; refine hK _ ?_; clear hK) | (clear hK; clear hK; clear hK; clear hK; refine hK _ ?_; clear hK) | (refine wSeq fun K hK => ?_) | ((first | refine wReg ?_ | refine wDrwQ rfl (by kernel_rfl) ?_ | refine wDrwI ?_ | refine wDrw (by kernel_rfl) ?_); simp only [List.map_cons, List.map_nil, strip]) | ((first | refine wIs fun K hK => ?_ | refine wOs fun K hK => ?_ | refine wQs fun K hK => ?_ | refine CallK_plain ?_ | refine CallQ_plain ?_ | refine CallR_plain ?_ | refine wCond ?_); simp) | (refine wIn ?_; refine And.intro (by kernel_rfl) ?_; try simp only [thenA_n]) | (first | refine wBlock ?_ | refine wScope ?_) | ((first | refine wRet ?_ | refine wExit ?_ | refine wSkip ?_); try simp) | ((first | refine wLabel ?_ | refine wOn ?_ | refine wQn ?_); try simp only [thenA_n])
  · refine hr _ 7 (by simp) (by simp) (by omega)
  · subst hnil
    simp only [thenA_r]
    refine hr _ 2 (by simp) (by simp) (by omega)
def cloneT : Nat → Option (Nat × Nat)
  | 68 => some (41, 7)
  | 86 => some (25, 2)
  | 94 => some (101, 5)
  | 95 => some (3, 1)
  | 102 => some (83, 4)
  | _ => none
theorem clone_ok {g e c : Nat} (h : cloneT g = some (e, c)) (l : List (List PV)) (hl : l.length ≤ 1000000) : RCon g [.p (.sl c l)] e c l := by
  unfold cloneT at h
  split at h
  · simp only [Option.some.injEq, Prod.mk.injEq] at h; obtain ⟨rfl, rfl⟩ := h; exact clone68 l hl
  · simp only [Option.some.injEq, Prod.mk.injEq] at h; obtain ⟨rfl, rfl⟩ := h; exact clone86 l hl
  · simp only [Option.some.injEq, Prod.mk.injEq] at h; obtain ⟨rfl, rfl⟩ := h; exact clone94 l hl
  · simp only [Option.some.injEq, Prod.mk.injEq] at h; obtain ⟨rfl, rfl⟩ := h; exact clone95 l hl
  · simp only [Option.some.injEq, Prod.mk.injEq] at h; obtain ⟨rfl, rfl⟩ := h; exact clone102 l hl
  · simp at h
def base : CallF' := fun g args β => match args, β with
  | [.p (.sl c' l)], [] => match cloneT g with
    | some (e, c) => if c' = c ∧ l.length ≤ 1000000 then some (.ret (.row 2048) [.row e c l] []) else none
    | none => none
  | _, _ => none
theorem base_ok : ∀ g args β out, base g args β = some out → Con Try.prog g args β out := fun g args β out h => by
  unfold base at h
  split at h
  · split at h
    · rename_i hc
      split at h
      · rename_i hl
        obtain ⟨rfl, hl⟩ := hl
        simp only [Option.some.injEq] at h; subst h
        exact clone_ok hc _ hl
      · simp at h
    · simp at h
  · simp at h
end Go.Proofs.Yteicecbjahhjmaa
/- Learners: what may be, what happens, begun. -/
namespace Go.Proofs.Yteicecbjahhjmaa
set_option linter.unusedSimpArgs false
set_option linter.unusedVariables false
set_option maxRecDepth 8000
open Go Go.Av
attribute [local simp] Try.T1 Try.T2 Try.T3 Try.T4 Try.T5 Try.T9 Try.T12 Try.T15 Try.T16 Try.T17 Try.T21 Try.T22 Try.T23 Try.T25 Try.T26 Try.T28 Try.T30 Try.T31 Try.T33 Try.T35 Try.T36 Try.T37 Try.T38 Try.T39 Try.T41 Try.T42 Try.T44 Try.T45 Try.T47 Try.T48 Try.T50 Try.T51 Try.T52 Try.T54 Try.T55 Try.T56 Try.T58 Try.T59 Try.T61 Try.T63 Try.T65 Try.T67 Try.T68 Try.T69 Try.T70 Try.T72 Try.T73 Try.T74 Try.T75 Try.T76 Try.T77 Try.T78 Try.T79 Try.T80 Try.T81 Try.T83 Try.T84 Try.T85 Try.T87 Try.T88 Try.T89 Try.T90 Try.T91 Try.T92 Try.T93 Try.T94 Try.T95 Try.T96 Try.T97 Try.T98 Try.T99 Try.T101 Try.T103 Try.T104 Try.T105 Try.T106 Try.T107 Try.T108 Try.T109 Try.T110 Try.T111 Try.T113 Try.T114 Try.T115 Try.T116 Try.T117 Try.T118 Try.T119 Try.T120 Try.T121 Try.T122 Try.T123 Try.T124 Try.T125 Try.T126 Try.T127 Try.T128 Try.T129 Try.T130 Try.T131 Try.T132 Try.T133 Try.T134 Try.T135 Try.T137 Try.T138 Try.T139 Try.T140 Try.T141 Try.T142 Try.T143 Try.T144 Try.T145 Try.T146 Try.T147 Try.T148 Try.T149 Try.T150 Try.T153 Try.T156 Try.T157 Try.T160 Try.T161 Try.T167
attribute [local irreducible] Go.Av.CallK Go.Av.CallE Go.Av.CallQ Go.Av.CallF Go.Av.CallR Go.Av.CallH Go.Av.Con
def Ev22.cells (e : Ev22) : List PV := [I e.k, I e.n, I e.m.fr, I e.m.to, I e.m.kd, I e.m.v0, I e.m.v1, I e.m.v2, I e.m.v3, I e.m.v4, I e.m.v5, I e.m.v6, I e.m.ep, I e.m.cu, I e.m.z.e, I e.m.z.n, .sl 2 (zxs e.m.ms), I e.m.pk, I e.m.pz.e, I e.m.pz.n, .sl 5 (zns e.m.pim.ns), .sl 1 (ints e.m.pim.ss), I e.m.pim.nx, I e.m.pim.c.ep, I e.m.pim.c.n, I e.m.pim.c.kind, .sl 4 (mbs e.m.pim.c.ms), I e.m.pim.ae, I e.m.pim.an, .sl 8 (txns e.m.pl), I e.m.tx.e, I e.m.tx.n, I e.m.tx.s, I e.m.tx.x, I e.m.tx.r, I e.m.tx.b, SB e.m.tx.m, .sl 11 (pts e.m.tx.ps), .sl 1 e.m.tc, I e.m.aK, I e.m.aS, I e.m.aX, .sl 6 e.m.ao, I e.m.adk, .sl 4 e.m.ap, .sl 1 e.m.ad, I e.m.awe, I e.m.awn]
def evsC (l : List Ev22) : List (List PV) := l.map Ev22.cells
@[simp] theorem evsC_len (l : List Ev22) : (evsC l).length = l.length := by simp [evsC]
@[simp] theorem evsC_getElem (l : List Ev22) (k : Nat) (h : k < (evsC l).length) : (evsC l)[k] = [I (l[k]'(by simpa using h)).k, I (l[k]'(by simpa using h)).n, I (l[k]'(by simpa using h)).m.fr, I (l[k]'(by simpa using h)).m.to, I (l[k]'(by simpa using h)).m.kd, I (l[k]'(by simpa using h)).m.v0, I (l[k]'(by simpa using h)).m.v1, I (l[k]'(by simpa using h)).m.v2, I (l[k]'(by simpa using h)).m.v3, I (l[k]'(by simpa using h)).m.v4, I (l[k]'(by simpa using h)).m.v5, I (l[k]'(by simpa using h)).m.v6, I (l[k]'(by simpa using h)).m.ep, I (l[k]'(by simpa using h)).m.cu, I (l[k]'(by simpa using h)).m.z.e, I (l[k]'(by simpa using h)).m.z.n, .sl 2 (zxs (l[k]'(by simpa using h)).m.ms), I (l[k]'(by simpa using h)).m.pk, I (l[k]'(by simpa using h)).m.pz.e, I (l[k]'(by simpa using h)).m.pz.n, .sl 5 (zns (l[k]'(by simpa using h)).m.pim.ns), .sl 1 (ints (l[k]'(by simpa using h)).m.pim.ss), I (l[k]'(by simpa using h)).m.pim.nx, I (l[k]'(by simpa using h)).m.pim.c.ep, I (l[k]'(by simpa using h)).m.pim.c.n, I (l[k]'(by simpa using h)).m.pim.c.kind, .sl 4 (mbs (l[k]'(by simpa using h)).m.pim.c.ms), I (l[k]'(by simpa using h)).m.pim.ae, I (l[k]'(by simpa using h)).m.pim.an, .sl 8 (txns (l[k]'(by simpa using h)).m.pl), I (l[k]'(by simpa using h)).m.tx.e, I (l[k]'(by simpa using h)).m.tx.n, I (l[k]'(by simpa using h)).m.tx.s, I (l[k]'(by simpa using h)).m.tx.x, I (l[k]'(by simpa using h)).m.tx.r, I (l[k]'(by simpa using h)).m.tx.b, SB (l[k]'(by simpa using h)).m.tx.m, .sl 11 (pts (l[k]'(by simpa using h)).m.tx.ps), .sl 1 (l[k]'(by simpa using h)).m.tc, I (l[k]'(by simpa using h)).m.aK, I (l[k]'(by simpa using h)).m.aS, I (l[k]'(by simpa using h)).m.aX, .sl 6 (l[k]'(by simpa using h)).m.ao, I (l[k]'(by simpa using h)).m.adk, .sl 4 (l[k]'(by simpa using h)).m.ap, .sl 1 (l[k]'(by simpa using h)).m.ad, I (l[k]'(by simpa using h)).m.awe, I (l[k]'(by simpa using h)).m.awn] := by simp [evsC, Ev22.cells]
theorem evsC_get {l : List Ev22} {k : Nat} (h : k < l.length) : (evsC l)[k]? = some l[k].cells := by simp [evsC, h]
theorem do22_con (p : Lp) (e : Ev22) (hk : OkH p.h) (hm : OkM e.m) (hl : p.h.lg.length + e.m.pl.length ≤ 999) : ACon Try.prog 12 [.p (.agg p.cells), .p (.agg e.cells)] (actR p e).out := by
  have c0 := hear_con p e.m hk hm hl
  have c1 := tick_con p hk
  have c2 := lost_con p e.n hk
  have ht : tickL p = (tickM p).map Mg.cells := by unfold tickL tickM; split <;> rfl
  rw [ht] at c1
  unfold actR
  obtain ⟨k, n, m⟩ := e
  dsimp only at *
  clear hm hl hk
  by_cases h0 : k = 0
  · subst h0
    rw [if_pos rfl]
    clear c1 c2
    generalize hearR p m = R at *
    unfold HR.out at *
    unfold Ev22.cells Mg.cells Lp.cells at *
    dsimp only at *
    generalize List.map _ R.l = L at *
    refine wBody Try.tab Try.mixed Try.func12 rfl rfl Try.ntmps12 (by simp) (by simp) fun Q hr hn => ?_
    repeat' first | (refine CallE.pure (c0) rfl ?_) | (refine CallE.lent (c0) rfl ?_) | (refine CallF.pure (c0) rfl ?_) | (refine CallF.lent (c0) rfl ?_) | (refine CallE.own (c0) ?_) | (refine CallH.pure (c0) rfl ?_) | (refine CallH.lent (c0) rfl ?_) | (refine CallH.own (c0) ?_) | (refine hK _ ?_; clear hK) | (refine hK _ _ ?_; clear hK) | (clear hK; refine hK _ ?_; clear hK) | (clear hK; clear hK; refine hK _ ?_; clear hK) | (clear hK; clear hK; clear hK; refine hK _ ?_; clear hK) | (clear hK; clear hK; clear hK; clear hK; refine hK _ ?_; clear hK) | (refine wSeq fun K hK => ?_) | ((first | refine wReg ?_ | refine wDrwQ rfl (by kernel_rfl) ?_ | refine wDrwI ?_ | refine wDrw (by kernel_rfl) ?_); simp only [List.map_cons, List.map_nil, strip]) | ((first | refine wIs fun K hK => ?_ | refine wOs fun K hK => ?_ | refine wQs fun K hK => ?_ | refine CallK_plain ?_ | refine CallQ_plain ?_ | refine CallR_plain ?_ | refine wCond ?_); simp) | (refine wIn ?_; refine And.intro (by kernel_rfl) ?_; try simp only [thenA_n]) | (first | refine wBlock ?_ | refine wScope ?_) | ((first | refine wRet ?_ | refine wExit ?_ | refine wSkip ?_); try simp) | ((first | refine wLabel ?_ | refine wOn ?_ | refine wQn ?_); try simp only [thenA_n])
    all_goals apply hr
    all_goals simp [Try.f12]
  rw [if_neg h0]
  by_cases h1 : k = 1
  · subst h1
    rw [if_pos rfl]
    clear c0 c2
    unfold HR.out
    dsimp only
    generalize (tickM p).map Mg.cells = L at *
    generalize decide (p.mo = 3 ∧ 8 < (tickP p).wt) = b at *
    generalize tickQ p = R at *
    unfold Ev22.cells Lp.cells at *
    dsimp only at *
    refine wBody Try.tab Try.mixed Try.func12 rfl rfl Try.ntmps12 (by simp) (by simp) fun Q hr hn => ?_
    repeat' first | (refine CallE.pure (c1) rfl ?_) | (refine CallE.lent (c1) rfl ?_) | (refine CallF.pure (c1) rfl ?_) | (refine CallF.lent (c1) rfl ?_) | (refine CallE.own (c1) ?_) | (refine CallH.pure (c1) rfl ?_) | (refine CallH.lent (c1) rfl ?_) | (refine CallH.own (c1) ?_) | (refine hK _ ?_; clear hK) | (refine hK _ _ ?_; clear hK) | (clear hK; refine hK _ ?_; clear hK) | (clear hK; clear hK; refine hK _ ?_; clear hK) | (clear hK; clear hK; clear hK; refine hK _ ?_; clear hK) | (clear hK; clear hK; clear hK; clear hK; refine hK _ ?_; clear hK) | (refine wSeq fun K hK => ?_) | ((first | refine wReg ?_ | refine wDrwQ rfl (by kernel_rfl) ?_ | refine wDrwI ?_ | refine wDrw (by kernel_rfl) ?_); simp only [List.map_cons, List.map_nil, strip]) | ((first | refine wIs fun K hK => ?_ | refine wOs fun K hK => ?_ | refine wQs fun K hK => ?_ | refine CallK_plain ?_ | refine CallQ_plain ?_ | refine CallR_plain ?_ | refine wCond ?_); simp) | (refine wIn ?_; refine And.intro (by kernel_rfl) ?_; try simp only [thenA_n]) | (first | refine wBlock ?_ | refine wScope ?_) | ((first | refine wRet ?_ | refine wExit ?_ | refine wSkip ?_); try simp) | ((first | refine wLabel ?_ | refine wOn ?_ | refine wQn ?_); try simp only [thenA_n])
    all_goals apply hr
    all_goals simp [Try.f12]
  rw [if_neg h1]
  clear c0 c1
  unfold HR.out
  dsimp only
  generalize decide (p.mo = 3 ∧ n = p.ld) = b at *
  unfold Ev22.cells Lp.cells at *
  dsimp only [List.map_nil] at *
  refine wBody Try.tab Try.mixed Try.func12 rfl rfl Try.ntmps12 (by simp) (by simp) fun Q hr hn => ?_
  repeat' first | (refine CallE.pure (c2) rfl ?_) | (refine CallE.lent (c2) rfl ?_) | (refine CallF.pure (c2) rfl ?_) | (refine CallF.lent (c2) rfl ?_) | (refine CallE.own (c2) ?_) | (refine CallH.pure (c2) rfl ?_) | (refine CallH.lent (c2) rfl ?_) | (refine CallH.own (c2) ?_) | (refine hK _ ?_; clear hK) | (refine hK _ _ ?_; clear hK) | (clear hK; refine hK _ ?_; clear hK) | (clear hK; clear hK; refine hK _ ?_; clear hK) | (clear hK; clear hK; clear hK; refine hK _ ?_; clear hK) | (clear hK; clear hK; clear hK; clear hK; refine hK _ ?_; clear hK) | (refine wSeq fun K hK => ?_) | ((first | refine wReg ?_ | refine wDrwQ rfl (by kernel_rfl) ?_ | refine wDrwI ?_ | refine wDrw (by kernel_rfl) ?_); simp only [List.map_cons, List.map_nil, strip]) | ((first | refine wIs fun K hK => ?_ | refine wOs fun K hK => ?_ | refine wQs fun K hK => ?_ | refine CallK_plain ?_ | refine CallQ_plain ?_ | refine CallR_plain ?_ | refine wCond ?_); simp [h0, h1]) | (refine wIn ?_; refine And.intro (by kernel_rfl) ?_; try simp only [thenA_n]) | (first | refine wBlock ?_ | refine wScope ?_) | ((first | refine wRet ?_ | refine wExit ?_ | refine wSkip ?_); try simp) | ((first | refine wLabel ?_ | refine wOn ?_ | refine wQn ?_); try simp only [thenA_n])
  all_goals apply hr
  all_goals simp [Try.f12]
/-! ### What may be -/
abbrev hyZ (l : List Tx) : Hy := ⟨sv0, l⟩
structure SmallE (e : Ev22) : Prop where
  pl : SmallH ⟨e.m.pim, e.m.pl⟩
  tx : SmallH (hyZ [e.m.tx])
def nearE (e : Ev22) : Prop := e.m.ms.length ≤ 50 ∧ near22 ⟨e.m.pim, e.m.pl⟩ ∧ near22 (hyZ [e.m.tx])
instance (e : Ev22) : Decidable (nearE e) := by unfold nearE; infer_instance
def nearL (l : List Ev22) : Prop := l.length ≤ 60 ∧ ∀ e ∈ l, nearE e
instance (l : List Ev22) : Decidable (nearL l) := by unfold nearL; infer_instance
theorem nearE.m {e : Ev22} (h : nearE e) : NearM e.m := by
  obtain ⟨h1, h2, h3⟩ := h
  refine ⟨near_HB h2, ?_⟩
  exact (near_HB h3).ps e.m.tx (by simp)
set_option maxHeartbeats 4000000 in
theorem evs_con (l : List Ev22) (hs : ∀ e ∈ l, SmallE e) : ACon Try.prog 8 [.p (.sl 48 (evsC l))] (.p (B (decide (¬ nearL l)))) := by
  refine ACon.len ⟨Try.f8, Try.func8, rfl, rfl⟩ 0 _ _ rfl fun hlen => ?_
  simp only [evsC_len] at hlen
  by_cases q1 : 60 < l.length
  · have q1' : (60 : Int) < l.length := by omega
    rw [show decide (¬ nearL l) = true from decide_eq_true fun h => by have := h.1; omega]
    refine wBody Try.tab Try.mixed Try.func8 rfl rfl Try.ntmps8 (by simp) (by simp) fun Q hr hn => ?_
    repeat' first | (refine hK _ ?_; clear hK) | (refine hK _ _ ?_; clear hK) | (clear hK; refine hK _ ?_; clear hK) | (clear hK; clear hK; refine hK _ ?_; clear hK) | (clear hK; clear hK; clear hK; refine hK _ ?_; clear hK) | (clear hK; clear hK; clear hK; clear hK; refine hK _ ?_; clear hK) | (refine wSeq fun K hK => ?_) | ((first | refine wReg ?_ | refine wDrwQ rfl (by kernel_rfl) ?_ | refine wDrwI ?_ | refine wDrw (by kernel_rfl) ?_); simp only [List.map_cons, List.map_nil, strip]) | ((first | refine wIs fun K hK => ?_ | refine wOs fun K hK => ?_ | refine wQs fun K hK => ?_ | refine CallK_plain ?_ | refine CallQ_plain ?_ | refine CallR_plain ?_ | refine wCond ?_); simp [q1, q1']) | (refine wIn ?_; refine And.intro (by kernel_rfl) ?_; try simp only [thenA_n]) | (first | refine wBlock ?_ | refine wScope ?_) | ((first | refine wRet ?_ | refine wExit ?_ | refine wSkip ?_); try simp) | ((first | refine wLabel ?_ | refine wOn ?_ | refine wQn ?_); try simp only [thenA_n])
    all_goals apply hr
    all_goals simp [Try.f8]
  have q1' : ¬ (60 : Int) < l.length := by omega
  refine wBody Try.tab Try.mixed Try.func8 rfl rfl Try.ntmps8 (by simp) (by simp) fun Q hr hn => ?_
  repeat' first | (refine hK _ ?_; clear hK) | (refine hK _ _ ?_; clear hK) | (clear hK; refine hK _ ?_; clear hK) | (clear hK; clear hK; refine hK _ ?_; clear hK) | (clear hK; clear hK; clear hK; refine hK _ ?_; clear hK) | (clear hK; clear hK; clear hK; clear hK; refine hK _ ?_; clear hK) | (refine wSeq fun K hK => ?_) | ((first | refine wReg ?_ | refine wDrwQ rfl (by kernel_rfl) ?_ | refine wDrwI ?_ | refine wDrw (by kernel_rfl) ?_); simp only [List.map_cons, List.map_nil, strip]) | ((first | refine wIs fun K hK => ?_ | refine wOs fun K hK => ?_ | refine wQs fun K hK => ?_ | refine CallK_plain ?_ | refine CallQ_plain ?_ | refine CallR_plain ?_ | refine wCond ?_); simp [q1, q1']) | (refine wIn ?_; refine And.intro (by kernel_rfl) ?_; try simp only [thenA_n]) | (first | refine wBlock ?_ | refine wScope ?_) | ((first | refine wRet ?_ | refine wExit ?_ | refine wSkip ?_); try simp) | ((first | refine wLabel ?_ | refine wOn ?_ | refine wQn ?_); try simp only [thenA_n])
  refine wLoop (fun N st => ∃ k, k + N = l.length ∧ (∀ j (hj : j < l.length), j < k → nearE l[j]) ∧ st.s 8 = .p (.sl 48 (evsC l)) ∧ st.s 9 = .p (I l.length) ∧ st.s 10 = .p (I k)) l.length ⟨0, by simp⟩ fun K N st hL ⟨k, hk, hn, g8, g9, g10⟩ => ?_
  by_cases hlt : k < l.length
  · have hw := wrapS k _ hlt hlen
    have he := evsC_get hlt
    have hsk := hs l[k] (List.getElem_mem hlt)
    have c1 := far22_con _ hsk.pl
    have c2 := far22_con _ hsk.tx
    have hN : nearE l[k] ↔ l[k].m.ms.length ≤ 50 ∧ near22 ⟨l[k].m.pim, l[k].m.pl⟩ ∧ near22 (hyZ [l[k].m.tx]) := Iff.rfl
    have hbad : ¬ nearE l[k] → decide (¬ nearL l) = true := fun h => decide_eq_true fun h' => h (h'.2 _ (List.getElem_mem hlt))
    have hd1 : decide (near22 ⟨l[k].m.pim, l[k].m.pl⟩) = decide (near22 ⟨l[k].m.pim, l[k].m.pl⟩) := rfl
    have hE : l[k].cells = l[k].cells := rfl
    by_cases o1 : 50 < l[k].m.ms.length
    · have o1' : (50 : Int) < l[k].m.ms.length := by omega
      rw [hbad fun h => by have := h.1; omega] at hr
      unfold Ev22.cells at he
      clear c1 c2 hN hbad hd1 hE hsk
      repeat' first | (refine hK _ ?_; clear hK) | (refine hK _ _ ?_; clear hK) | (clear hK; refine hK _ ?_; clear hK) | (clear hK; clear hK; refine hK _ ?_; clear hK) | (clear hK; clear hK; clear hK; refine hK _ ?_; clear hK) | (clear hK; clear hK; clear hK; clear hK; refine hK _ ?_; clear hK) | (refine wSeq fun K hK => ?_) | ((first | refine wReg ?_ | refine wDrwQ rfl (by kernel_rfl) ?_ | refine wDrwI ?_ | refine wDrw (by kernel_rfl) ?_); simp only [List.map_cons, List.map_nil, strip]) | ((first | refine wIs fun K hK => ?_ | refine wOs fun K hK => ?_ | refine wQs fun K hK => ?_ | refine CallK_plain ?_ | refine CallQ_plain ?_ | refine CallR_plain ?_ | refine wCond ?_); simp [g8, g9, g10, hlt, he, o1, o1']) | (refine wIn ?_; refine And.intro (by kernel_rfl) ?_; try simp only [thenA_n]) | (first | refine wBlock ?_ | refine wScope ?_) | ((first | refine wRet ?_ | refine wExit ?_ | refine wSkip ?_); try simp) | ((first | refine wLabel ?_ | refine wOn ?_ | refine wQn ?_); try simp only [thenA_n])
      all_goals apply hr
      all_goals simp [Try.f8]
    have o1' : ¬ (50 : Int) < l[k].m.ms.length := by omega
    by_cases o2 : near22 ⟨l[k].m.pim, l[k].m.pl⟩
    · rw [decide_eq_false (not_not_intro o2)] at c1
      by_cases o3 : near22 (hyZ [l[k].m.tx])
      · rw [decide_eq_false (not_not_intro o3)] at c2
        have hok : nearE l[k] := ⟨by omega, o2, o3⟩
        clear hN hbad hd1 hE hsk o2 o3
        generalize hx : l[k] = x at *
        simp only [Hy.cells, zns, ints, mbs, txns, List.map_nil, List.map_cons, Tx.cells] at c2
        simp only [Hy.cells] at c1
        unfold Ev22.cells at he
        repeat' first | (refine CallE.pure (c1) rfl ?_) | (refine CallE.lent (c1) rfl ?_) | (refine CallF.pure (c1) rfl ?_) | (refine CallF.lent (c1) rfl ?_) | (refine CallE.own (c1) ?_) | (refine CallH.pure (c1) rfl ?_) | (refine CallH.lent (c1) rfl ?_) | (refine CallH.own (c1) ?_) | (refine CallE.pure (c2) rfl ?_) | (refine CallE.lent (c2) rfl ?_) | (refine CallF.pure (c2) rfl ?_) | (refine CallF.lent (c2) rfl ?_) | (refine CallE.own (c2) ?_) | (refine CallH.pure (c2) rfl ?_) | (refine CallH.lent (c2) rfl ?_) | (refine CallH.own (c2) ?_) | (refine hK _ ?_; clear hK) | (refine hK _ _ ?_; clear hK) | (clear hK; refine hK _ ?_; clear hK) | (clear hK; clear hK; refine hK _ ?_; clear hK) | (clear hK; clear hK; clear hK; refine hK _ ?_; clear hK) | (clear hK; clear hK; clear hK; clear hK; refine hK _ ?_; clear hK) | (refine wSeq fun K hK => ?_) | ((first | refine wReg ?_ | refine wDrwQ rfl (by kernel_rfl) ?_ | refine wDrwI ?_ | refine wDrw (by kernel_rfl) ?_); simp only [List.map_cons, List.map_nil, strip]) | ((first | refine wIs fun K hK => ?_ | refine wOs fun K hK => ?_ | refine wQs fun K hK => ?_ | refine CallK_plain ?_ | refine CallQ_plain ?_ | refine CallR_plain ?_ | refine wCond ?_); simp [g8, g9, g10, hlt, he, hw, o1, o1', hx]) | (refine wIn ?_; refine And.intro (by kernel_rfl) ?_; try simp only [thenA_n]) | (first | refine wBlock ?_ | refine wScope ?_) | ((first | refine wRet ?_ | refine wExit ?_ | refine wSkip ?_); try simp) | ((first | refine wLabel ?_ | refine wOn ?_ | refine wQn ?_); try simp only [thenA_n])
        refine hL _ (N - 1) (by omega) ⟨k + 1, by omega, fun j hj hjk => ?_, ?_⟩
        · by_cases hjk' : j = k
          · subst hjk'; rw [hx]; exact hok
          · exact hn j hj (by omega)
        · simp [g8, g9, hw]
      · rw [decide_eq_true o3] at c2
        rw [hbad fun h => o3 h.2.2] at hr
        clear hN hbad hd1 hE hsk o2 o3
        generalize hx : l[k] = x at *
        simp only [Hy.cells, zns, ints, mbs, txns, List.map_nil, List.map_cons, Tx.cells] at c2
        simp only [Hy.cells] at c1
        unfold Ev22.cells at he
        repeat' first | (refine CallE.pure (c1) rfl ?_) | (refine CallE.lent (c1) rfl ?_) | (refine CallF.pure (c1) rfl ?_) | (refine CallF.lent (c1) rfl ?_) | (refine CallE.own (c1) ?_) | (refine CallH.pure (c1) rfl ?_) | (refine CallH.lent (c1) rfl ?_) | (refine CallH.own (c1) ?_) | (refine CallE.pure (c2) rfl ?_) | (refine CallE.lent (c2) rfl ?_) | (refine CallF.pure (c2) rfl ?_) | (refine CallF.lent (c2) rfl ?_) | (refine CallE.own (c2) ?_) | (refine CallH.pure (c2) rfl ?_) | (refine CallH.lent (c2) rfl ?_) | (refine CallH.own (c2) ?_) | (refine hK _ ?_; clear hK) | (refine hK _ _ ?_; clear hK) | (clear hK; refine hK _ ?_; clear hK) | (clear hK; clear hK; refine hK _ ?_; clear hK) | (clear hK; clear hK; clear hK; refine hK _ ?_; clear hK) | (clear hK; clear hK; clear hK; clear hK; refine hK _ ?_; clear hK) | (refine wSeq fun K hK => ?_) | ((first | refine wReg ?_ | refine wDrwQ rfl (by kernel_rfl) ?_ | refine wDrwI ?_ | refine wDrw (by kernel_rfl) ?_); simp only [List.map_cons, List.map_nil, strip]) | ((first | refine wIs fun K hK => ?_ | refine wOs fun K hK => ?_ | refine wQs fun K hK => ?_ | refine CallK_plain ?_ | refine CallQ_plain ?_ | refine CallR_plain ?_ | refine wCond ?_); simp [g8, g9, g10, hlt, he, o1, o1', hx]) | (refine wIn ?_; refine And.intro (by kernel_rfl) ?_; try simp only [thenA_n]) | (first | refine wBlock ?_ | refine wScope ?_) | ((first | refine wRet ?_ | refine wExit ?_ | refine wSkip ?_); try simp) | ((first | refine wLabel ?_ | refine wOn ?_ | refine wQn ?_); try simp only [thenA_n])
        all_goals apply hr
        all_goals simp [Try.f8]
    · rw [decide_eq_true o2] at c1
      rw [hbad fun h => o2 h.2.1] at hr
      clear c2 hN hbad hd1 hE hsk o2
      generalize hx : l[k] = x at *
      simp only [Hy.cells] at c1
      unfold Ev22.cells at he
      repeat' first | (refine CallE.pure (c1) rfl ?_) | (refine CallE.lent (c1) rfl ?_) | (refine CallF.pure (c1) rfl ?_) | (refine CallF.lent (c1) rfl ?_) | (refine CallE.own (c1) ?_) | (refine CallH.pure (c1) rfl ?_) | (refine CallH.lent (c1) rfl ?_) | (refine CallH.own (c1) ?_) | (refine hK _ ?_; clear hK) | (refine hK _ _ ?_; clear hK) | (clear hK; refine hK _ ?_; clear hK) | (clear hK; clear hK; refine hK _ ?_; clear hK) | (clear hK; clear hK; clear hK; refine hK _ ?_; clear hK) | (clear hK; clear hK; clear hK; clear hK; refine hK _ ?_; clear hK) | (refine wSeq fun K hK => ?_) | ((first | refine wReg ?_ | refine wDrwQ rfl (by kernel_rfl) ?_ | refine wDrwI ?_ | refine wDrw (by kernel_rfl) ?_); simp only [List.map_cons, List.map_nil, strip]) | ((first | refine wIs fun K hK => ?_ | refine wOs fun K hK => ?_ | refine wQs fun K hK => ?_ | refine CallK_plain ?_ | refine CallQ_plain ?_ | refine CallR_plain ?_ | refine wCond ?_); simp [g8, g9, g10, hlt, he, o1, o1', hx]) | (refine wIn ?_; refine And.intro (by kernel_rfl) ?_; try simp only [thenA_n]) | (first | refine wBlock ?_ | refine wScope ?_) | ((first | refine wRet ?_ | refine wExit ?_ | refine wSkip ?_); try simp) | ((first | refine wLabel ?_ | refine wOn ?_ | refine wQn ?_); try simp only [thenA_n])
      all_goals apply hr
      all_goals simp [Try.f8]
  · rw [show decide (¬ nearL l) = false from decide_eq_false fun h => h ⟨by omega, fun e he => by
      obtain ⟨j, hj, rfl⟩ := List.getElem_of_mem he
      exact hn j hj (by omega)⟩] at hr
    repeat' first | (refine hK _ ?_; clear hK) | (refine hK _ _ ?_; clear hK) | (clear hK; refine hK _ ?_; clear hK) | (clear hK; clear hK; refine hK _ ?_; clear hK) | (clear hK; clear hK; clear hK; refine hK _ ?_; clear hK) | (clear hK; clear hK; clear hK; clear hK; refine hK _ ?_; clear hK) | (refine wSeq fun K hK => ?_) | ((first | refine wReg ?_ | refine wDrwQ rfl (by kernel_rfl) ?_ | refine wDrwI ?_ | refine wDrw (by kernel_rfl) ?_); simp only [List.map_cons, List.map_nil, strip]) | ((first | refine wIs fun K hK => ?_ | refine wOs fun K hK => ?_ | refine wQs fun K hK => ?_ | refine CallK_plain ?_ | refine CallQ_plain ?_ | refine CallR_plain ?_ | refine wCond ?_); simp [g8, g9, g10, hlt]) | (refine wIn ?_; refine And.intro (by kernel_rfl) ?_; try simp only [thenA_n]) | (first | refine wBlock ?_ | refine wScope ?_) | ((first | refine wRet ?_ | refine wExit ?_ | refine wSkip ?_); try simp) | ((first | refine wLabel ?_ | refine wOn ?_ | refine wQn ?_); try simp only [thenA_n])
    all_goals apply hr
    all_goals simp [Try.f8]
def Wh.cells (w : Wh) : List PV := [I w.id, I w.ld, I w.ac, I w.cu, .sl 5 (zns w.h.im.ns), .sl 1 (ints w.h.im.ss), I w.h.im.nx, I w.h.im.c.ep, I w.h.im.c.n, I w.h.im.c.kind, .sl 4 (mbs w.h.im.c.ms), I w.h.im.ae, I w.h.im.an, .sl 8 (txns w.h.lg)]
def mayW (w : Wh) : Prop := 0 ≤ w.id ∧ w.id < 16 ∧ 0 ≤ w.ld ∧ w.ld < 16 ∧ ¬ w.ld = w.id ∧ 0 ≤ w.ac ∧ near22 w.h ∧ risesB (mks w.h) = true
instance (w : Wh) : Decidable (mayW w) := by unfold mayW; infer_instance
set_option maxHeartbeats 4000000 in
theorem may_con (w : Wh) (hs : SmallH w.h) : ACon Try.prog 7 [.p (.agg w.cells)] (.p (B (decide (mayW w)))) := by
  have c1 := far22_con w.h hs
  have hm : mayW w ↔ 0 ≤ w.id ∧ w.id < 16 ∧ 0 ≤ w.ld ∧ w.ld < 16 ∧ ¬ w.ld = w.id ∧ 0 ≤ w.ac ∧ near22 w.h ∧ risesB (mks w.h) = true := Iff.rfl
  unfold Hy.cells at c1
  unfold Wh.cells
  by_cases h1 : 0 ≤ w.id
  case neg =>
    rw [decide_eq_false (fun h => h1 (hm.1 h).1)]
    refine wBody Try.tab Try.mixed Try.func7 rfl rfl Try.ntmps7 (by simp) (by simp) fun Q hr hn => ?_
    repeat' first | (refine hK _ ?_; clear hK) | (refine hK _ _ ?_; clear hK) | (clear hK; refine hK _ ?_; clear hK) | (clear hK; clear hK; refine hK _ ?_; clear hK) | (clear hK; clear hK; clear hK; refine hK _ ?_; clear hK) | (clear hK; clear hK; clear hK; clear hK; refine hK _ ?_; clear hK) | (refine wSeq fun K hK => ?_) | ((first | refine wReg ?_ | refine wDrwQ rfl (by kernel_rfl) ?_ | refine wDrwI ?_ | refine wDrw (by kernel_rfl) ?_); simp only [List.map_cons, List.map_nil, strip]) | ((first | refine wIs fun K hK => ?_ | refine wOs fun K hK => ?_ | refine wQs fun K hK => ?_ | refine CallK_plain ?_ | refine CallQ_plain ?_ | refine CallR_plain ?_ | refine wCond ?_); simp [h1]) | (refine wIn ?_; refine And.intro (by kernel_rfl) ?_; try simp only [thenA_n]) | (first | refine wBlock ?_ | refine wScope ?_) | ((first | refine wRet ?_ | refine wExit ?_ | refine wSkip ?_); try simp) | ((first | refine wLabel ?_ | refine wOn ?_ | refine wQn ?_); try simp only [thenA_n])
    all_goals apply hr
    all_goals simp [Try.f7]
  by_cases h2 : w.id < 16
  case neg =>
    rw [decide_eq_false (fun h => h2 (hm.1 h).2.1)]
    have h2' : 16 ≤ w.id := by omega
    refine wBody Try.tab Try.mixed Try.func7 rfl rfl Try.ntmps7 (by simp) (by simp) fun Q hr hn => ?_
    repeat' first | (refine hK _ ?_; clear hK) | (refine hK _ _ ?_; clear hK) | (clear hK; refine hK _ ?_; clear hK) | (clear hK; clear hK; refine hK _ ?_; clear hK) | (clear hK; clear hK; clear hK; refine hK _ ?_; clear hK) | (clear hK; clear hK; clear hK; clear hK; refine hK _ ?_; clear hK) | (refine wSeq fun K hK => ?_) | ((first | refine wReg ?_ | refine wDrwQ rfl (by kernel_rfl) ?_ | refine wDrwI ?_ | refine wDrw (by kernel_rfl) ?_); simp only [List.map_cons, List.map_nil, strip]) | ((first | refine wIs fun K hK => ?_ | refine wOs fun K hK => ?_ | refine wQs fun K hK => ?_ | refine CallK_plain ?_ | refine CallQ_plain ?_ | refine CallR_plain ?_ | refine wCond ?_); simp [h1, h2, h2']) | (refine wIn ?_; refine And.intro (by kernel_rfl) ?_; try simp only [thenA_n]) | (first | refine wBlock ?_ | refine wScope ?_) | ((first | refine wRet ?_ | refine wExit ?_ | refine wSkip ?_); try simp) | ((first | refine wLabel ?_ | refine wOn ?_ | refine wQn ?_); try simp only [thenA_n])
    all_goals apply hr
    all_goals simp [Try.f7]
  by_cases h3 : 0 ≤ w.ld
  case neg =>
    rw [decide_eq_false (fun h => h3 (hm.1 h).2.2.1)]
    refine wBody Try.tab Try.mixed Try.func7 rfl rfl Try.ntmps7 (by simp) (by simp) fun Q hr hn => ?_
    repeat' first | (refine hK _ ?_; clear hK) | (refine hK _ _ ?_; clear hK) | (clear hK; refine hK _ ?_; clear hK) | (clear hK; clear hK; refine hK _ ?_; clear hK) | (clear hK; clear hK; clear hK; refine hK _ ?_; clear hK) | (clear hK; clear hK; clear hK; clear hK; refine hK _ ?_; clear hK) | (refine wSeq fun K hK => ?_) | ((first | refine wReg ?_ | refine wDrwQ rfl (by kernel_rfl) ?_ | refine wDrwI ?_ | refine wDrw (by kernel_rfl) ?_); simp only [List.map_cons, List.map_nil, strip]) | ((first | refine wIs fun K hK => ?_ | refine wOs fun K hK => ?_ | refine wQs fun K hK => ?_ | refine CallK_plain ?_ | refine CallQ_plain ?_ | refine CallR_plain ?_ | refine wCond ?_); simp [h1, h2, h3]) | (refine wIn ?_; refine And.intro (by kernel_rfl) ?_; try simp only [thenA_n]) | (first | refine wBlock ?_ | refine wScope ?_) | ((first | refine wRet ?_ | refine wExit ?_ | refine wSkip ?_); try simp) | ((first | refine wLabel ?_ | refine wOn ?_ | refine wQn ?_); try simp only [thenA_n])
    all_goals apply hr
    all_goals simp [Try.f7]
  by_cases h4 : w.ld < 16
  case neg =>
    rw [decide_eq_false (fun h => h4 (hm.1 h).2.2.2.1)]
    refine wBody Try.tab Try.mixed Try.func7 rfl rfl Try.ntmps7 (by simp) (by simp) fun Q hr hn => ?_
    repeat' first | (refine hK _ ?_; clear hK) | (refine hK _ _ ?_; clear hK) | (clear hK; refine hK _ ?_; clear hK) | (clear hK; clear hK; refine hK _ ?_; clear hK) | (clear hK; clear hK; clear hK; refine hK _ ?_; clear hK) | (clear hK; clear hK; clear hK; clear hK; refine hK _ ?_; clear hK) | (refine wSeq fun K hK => ?_) | ((first | refine wReg ?_ | refine wDrwQ rfl (by kernel_rfl) ?_ | refine wDrwI ?_ | refine wDrw (by kernel_rfl) ?_); simp only [List.map_cons, List.map_nil, strip]) | ((first | refine wIs fun K hK => ?_ | refine wOs fun K hK => ?_ | refine wQs fun K hK => ?_ | refine CallK_plain ?_ | refine CallQ_plain ?_ | refine CallR_plain ?_ | refine wCond ?_); simp [h1, h2, h3, h4]) | (refine wIn ?_; refine And.intro (by kernel_rfl) ?_; try simp only [thenA_n]) | (first | refine wBlock ?_ | refine wScope ?_) | ((first | refine wRet ?_ | refine wExit ?_ | refine wSkip ?_); try simp) | ((first | refine wLabel ?_ | refine wOn ?_ | refine wQn ?_); try simp only [thenA_n])
    all_goals apply hr
    all_goals simp [Try.f7]
  by_cases h5 : w.ld = w.id
  case pos =>
    rw [decide_eq_false (fun h => (hm.1 h).2.2.2.2.1 h5)]
    replace h5 : (w.ld = w.id) = True := eq_true h5
    refine wBody Try.tab Try.mixed Try.func7 rfl rfl Try.ntmps7 (by simp) (by simp) fun Q hr hn => ?_
    repeat' first | (refine hK _ ?_; clear hK) | (refine hK _ _ ?_; clear hK) | (clear hK; refine hK _ ?_; clear hK) | (clear hK; clear hK; refine hK _ ?_; clear hK) | (clear hK; clear hK; clear hK; refine hK _ ?_; clear hK) | (clear hK; clear hK; clear hK; clear hK; refine hK _ ?_; clear hK) | (refine wSeq fun K hK => ?_) | ((first | refine wReg ?_ | refine wDrwQ rfl (by kernel_rfl) ?_ | refine wDrwI ?_ | refine wDrw (by kernel_rfl) ?_); simp only [List.map_cons, List.map_nil, strip]) | ((first | refine wIs fun K hK => ?_ | refine wOs fun K hK => ?_ | refine wQs fun K hK => ?_ | refine CallK_plain ?_ | refine CallQ_plain ?_ | refine CallR_plain ?_ | refine wCond ?_); simp [h1, h2, h3, h4, h5]) | (refine wIn ?_; refine And.intro (by kernel_rfl) ?_; try simp only [thenA_n]) | (first | refine wBlock ?_ | refine wScope ?_) | ((first | refine wRet ?_ | refine wExit ?_ | refine wSkip ?_); try simp) | ((first | refine wLabel ?_ | refine wOn ?_ | refine wQn ?_); try simp only [thenA_n])
    all_goals apply hr
    all_goals simp [Try.f7]
  have h5' : (w.ld = w.id) = False := eq_false h5
  by_cases h6 : 0 ≤ w.ac
  case neg =>
    rw [decide_eq_false (fun h => h6 (hm.1 h).2.2.2.2.2.1)]
    refine wBody Try.tab Try.mixed Try.func7 rfl rfl Try.ntmps7 (by simp) (by simp) fun Q hr hn => ?_
    repeat' first | (refine hK _ ?_; clear hK) | (refine hK _ _ ?_; clear hK) | (clear hK; refine hK _ ?_; clear hK) | (clear hK; clear hK; refine hK _ ?_; clear hK) | (clear hK; clear hK; clear hK; refine hK _ ?_; clear hK) | (clear hK; clear hK; clear hK; clear hK; refine hK _ ?_; clear hK) | (refine wSeq fun K hK => ?_) | ((first | refine wReg ?_ | refine wDrwQ rfl (by kernel_rfl) ?_ | refine wDrwI ?_ | refine wDrw (by kernel_rfl) ?_); simp only [List.map_cons, List.map_nil, strip]) | ((first | refine wIs fun K hK => ?_ | refine wOs fun K hK => ?_ | refine wQs fun K hK => ?_ | refine CallK_plain ?_ | refine CallQ_plain ?_ | refine CallR_plain ?_ | refine wCond ?_); simp [h1, h2, h3, h4, h5', h6]) | (refine wIn ?_; refine And.intro (by kernel_rfl) ?_; try simp only [thenA_n]) | (first | refine wBlock ?_ | refine wScope ?_) | ((first | refine wRet ?_ | refine wExit ?_ | refine wSkip ?_); try simp) | ((first | refine wLabel ?_ | refine wOn ?_ | refine wQn ?_); try simp only [thenA_n])
    all_goals apply hr
    all_goals simp [Try.f7]
  by_cases h7 : near22 w.h
  case neg =>
    rw [decide_eq_false (fun h => h7 (hm.1 h).2.2.2.2.2.2.1)]
    rw [decide_eq_true h7] at c1
    clear h7
    refine wBody Try.tab Try.mixed Try.func7 rfl rfl Try.ntmps7 (by simp) (by simp) fun Q hr hn => ?_
    repeat' first | (refine CallE.pure (c1) rfl ?_) | (refine CallE.lent (c1) rfl ?_) | (refine CallF.pure (c1) rfl ?_) | (refine CallF.lent (c1) rfl ?_) | (refine CallE.own (c1) ?_) | (refine CallH.pure (c1) rfl ?_) | (refine CallH.lent (c1) rfl ?_) | (refine CallH.own (c1) ?_) | (refine hK _ ?_; clear hK) | (refine hK _ _ ?_; clear hK) | (clear hK; refine hK _ ?_; clear hK) | (clear hK; clear hK; refine hK _ ?_; clear hK) | (clear hK; clear hK; clear hK; refine hK _ ?_; clear hK) | (clear hK; clear hK; clear hK; clear hK; refine hK _ ?_; clear hK) | (refine wSeq fun K hK => ?_) | ((first | refine wReg ?_ | refine wDrwQ rfl (by kernel_rfl) ?_ | refine wDrwI ?_ | refine wDrw (by kernel_rfl) ?_); simp only [List.map_cons, List.map_nil, strip]) | ((first | refine wIs fun K hK => ?_ | refine wOs fun K hK => ?_ | refine wQs fun K hK => ?_ | refine CallK_plain ?_ | refine CallQ_plain ?_ | refine CallR_plain ?_ | refine wCond ?_); simp [h1, h2, h3, h4, h5', h6]) | (refine wIn ?_; refine And.intro (by kernel_rfl) ?_; try simp only [thenA_n]) | (first | refine wBlock ?_ | refine wScope ?_) | ((first | refine wRet ?_ | refine wExit ?_ | refine wSkip ?_); try simp) | ((first | refine wLabel ?_ | refine wOn ?_ | refine wQn ?_); try simp only [thenA_n])
    all_goals apply hr
    all_goals simp [Try.f7]
  have c2 := check16_con w.h (by have := h7.1; omega)
  unfold Hy.cells at c2
  rw [decide_eq_false (not_not_intro h7)] at c1
  rw [show decide (mayW w) = risesB (mks w.h) by
    rw [Bool.eq_iff_iff, decide_eq_true_iff, hm]
    exact ⟨fun h => h.2.2.2.2.2.2.2, fun h => ⟨h1, h2, h3, h4, h5, h6, h7, h⟩⟩]
  generalize risesB (mks w.h) = b at *
  clear h7 hm
  refine wBody Try.tab Try.mixed Try.func7 rfl rfl Try.ntmps7 (by simp) (by simp) fun Q hr hn => ?_
  repeat' first | (refine CallE.pure (c1) rfl ?_) | (refine CallE.lent (c1) rfl ?_) | (refine CallF.pure (c1) rfl ?_) | (refine CallF.lent (c1) rfl ?_) | (refine CallE.own (c1) ?_) | (refine CallH.pure (c1) rfl ?_) | (refine CallH.lent (c1) rfl ?_) | (refine CallH.own (c1) ?_) | (refine CallE.pure (c2) rfl ?_) | (refine CallE.lent (c2) rfl ?_) | (refine CallF.pure (c2) rfl ?_) | (refine CallF.lent (c2) rfl ?_) | (refine CallE.own (c2) ?_) | (refine CallH.pure (c2) rfl ?_) | (refine CallH.lent (c2) rfl ?_) | (refine CallH.own (c2) ?_) | (refine hK _ ?_; clear hK) | (refine hK _ _ ?_; clear hK) | (clear hK; refine hK _ ?_; clear hK) | (clear hK; clear hK; refine hK _ ?_; clear hK) | (clear hK; clear hK; clear hK; refine hK _ ?_; clear hK) | (clear hK; clear hK; clear hK; clear hK; refine hK _ ?_; clear hK) | (refine wSeq fun K hK => ?_) | ((first | refine wReg ?_ | refine wDrwQ rfl (by kernel_rfl) ?_ | refine wDrwI ?_ | refine wDrw (by kernel_rfl) ?_); simp only [List.map_cons, List.map_nil, strip]) | ((first | refine wIs fun K hK => ?_ | refine wOs fun K hK => ?_ | refine wQs fun K hK => ?_ | refine CallK_plain ?_ | refine CallQ_plain ?_ | refine CallR_plain ?_ | refine wCond ?_); simp [h1, h2, h3, h4, h5', h6]) | (refine wIn ?_; refine And.intro (by kernel_rfl) ?_; try simp only [thenA_n]) | (first | refine wBlock ?_ | refine wScope ?_) | ((first | refine wRet ?_ | refine wExit ?_ | refine wSkip ?_); try simp) | ((first | refine wLabel ?_ | refine wOn ?_ | refine wQn ?_); try simp only [thenA_n])
  all_goals apply hr
  all_goals simp [Try.f7]
theorem base16_con (h : Hy) : ACon Try.prog 27 [.p (.agg h.cells)] (.p (.agg [I h.im.ae, I h.im.an])) := by
  unfold Hy.cells
  refine wBody Try.tab Try.mixed Try.func27 rfl rfl Try.ntmps27 (by simp) (by simp) fun Q hr hn => ?_
  repeat' first | (refine hK _ ?_; clear hK) | (refine hK _ _ ?_; clear hK) | (clear hK; refine hK _ ?_; clear hK) | (clear hK; clear hK; refine hK _ ?_; clear hK) | (clear hK; clear hK; clear hK; refine hK _ ?_; clear hK) | (clear hK; clear hK; clear hK; clear hK; refine hK _ ?_; clear hK) | (refine wSeq fun K hK => ?_) | ((first | refine wReg ?_ | refine wDrwQ rfl (by kernel_rfl) ?_ | refine wDrwI ?_ | refine wDrw (by kernel_rfl) ?_); simp only [List.map_cons, List.map_nil, strip]) | ((first | refine wIs fun K hK => ?_ | refine wOs fun K hK => ?_ | refine wQs fun K hK => ?_ | refine CallK_plain ?_ | refine CallQ_plain ?_ | refine CallR_plain ?_ | refine wCond ?_); simp) | (refine wIn ?_; refine And.intro (by kernel_rfl) ?_; try simp only [thenA_n]) | (first | refine wBlock ?_ | refine wScope ?_) | ((first | refine wRet ?_ | refine wExit ?_ | refine wSkip ?_); try simp) | ((first | refine wLabel ?_ | refine wOn ?_ | refine wQn ?_); try simp only [thenA_n])
  all_goals apply hr
  all_goals simp [Try.f27]
theorem begin22_con (w : Wh) : ACon Try.prog 11 [.p (.agg w.cells)] (.p (.agg (beg w).cells)) := by
  have c1 := base16_con w.h
  unfold Hy.cells at c1
  unfold beg Lp.cells Wh.cells
  dsimp only
  refine wBody Try.tab Try.mixed Try.func11 rfl rfl Try.ntmps11 (by simp) (by simp) fun Q hr hn => ?_
  repeat' first | (refine CallE.pure (c1) rfl ?_) | (refine CallE.lent (c1) rfl ?_) | (refine CallF.pure (c1) rfl ?_) | (refine CallF.lent (c1) rfl ?_) | (refine CallE.own (c1) ?_) | (refine CallH.pure (c1) rfl ?_) | (refine CallH.lent (c1) rfl ?_) | (refine CallH.own (c1) ?_) | (refine hK _ ?_; clear hK) | (refine hK _ _ ?_; clear hK) | (clear hK; refine hK _ ?_; clear hK) | (clear hK; clear hK; refine hK _ ?_; clear hK) | (clear hK; clear hK; clear hK; refine hK _ ?_; clear hK) | (clear hK; clear hK; clear hK; clear hK; refine hK _ ?_; clear hK) | (refine wSeq fun K hK => ?_) | ((first | refine wReg ?_ | refine wDrwQ rfl (by kernel_rfl) ?_ | refine wDrwI ?_ | refine wDrw (by kernel_rfl) ?_); simp only [List.map_cons, List.map_nil, strip]) | ((first | refine wIs fun K hK => ?_ | refine wOs fun K hK => ?_ | refine wQs fun K hK => ?_ | refine CallK_plain ?_ | refine CallQ_plain ?_ | refine CallR_plain ?_ | refine wCond ?_); simp) | (refine wIn ?_; refine And.intro (by kernel_rfl) ?_; try simp only [thenA_n]) | (first | refine wBlock ?_ | refine wScope ?_) | ((first | refine wRet ?_ | refine wExit ?_ | refine wSkip ?_); try simp) | ((first | refine wLabel ?_ | refine wOn ?_ | refine wQn ?_); try simp only [thenA_n])
  all_goals apply hr
  all_goals simp [Try.f11]
abbrev mzA (fr to kd ep : Int) (mk : List (List PV)) : List PV := [I fr, I to, I kd, I 0, I 0, I 0, I 0, I 0, I 0, I 0, I ep, I 0, I 0, I 0, .sl 2 mk, I 0, I 0, I 0, .sl 5 [], .sl 1 [], I 0, I 0, I 0, I 0, .sl 4 [], I 0, I 0, .sl 8 [], I 0, I 0, I 0, I 0, I 0, I 0, SB [], .sl 11 [], .sl 1 [], I 0, I 0, I 0, .sl 6 [], I 0, .sl 4 [], .sl 1 [], I 0, I 0]
abbrev pzA (ac mo ph ep : Int) : List PV := [I 1, I ac, I 0, .sl 5 [[SB [47], SB [], I 0, I 0, I 0]], .sl 1 [], I 1, I 0, I 0, I 1, .sl 4 [[I 0, I 1, I 0, I 0], [I 1, I 1, I 0, I 0]], I 0, I 0, .sl 8 [], I 0, I 0, I mo, I 0, I 0, I 0, I 0, I 0, I 0, I 0, I 0, I 0, I 0, I 0, I 0, I 0, I 0, I 0, I 0, .sl 7 [], I 0, I ph, I 0, I ep, .sl 8 []]
abbrev cA : Cf := ⟨0, 0, 1, [⟨0, 1, 0, 0⟩, ⟨1, 1, 0, 0⟩]⟩
def p0A : Lp := ⟨1, 0, 0, ⟨startS cA, []⟩, ⟨0, 0⟩, 0, 0, 0, 0, 0⟩
def mA : Mg := mgZ 0 1 3 16 0 ⟨0, 0⟩ []
theorem okP0 : OkH p0A.h := ⟨by decide, by decide, by decide, by decide, fun t ht => (by cases ht), by decide⟩
theorem start22_con : ACon Try.prog 23 [.p (.agg [I 0, I 0, I 1, .sl 4 [[I 0, I 1, I 0, I 0], [I 1, I 1, I 0, I 0]]])] (.p (.agg [.sl 5 [[SB [47], SB [], I 0, I 0, I 0]], .sl 1 [], I 1, I 0, I 0, I 1, .sl 4 [[I 0, I 1, I 0, I 0], [I 1, I 1, I 0, I 0]], I 0, I 0])) :=
  start08_con cA (by unfold okC; decide)
theorem beginA_con : ACon Try.prog 10 [.p (.agg (pzA 0 0 0 0)), .p (I 0)] (.tup [.p (.agg (pzA 0 3 1 0)), .p (.sl 46 [mzA 1 0 2 0 []]), .p (B true)]) :=
  begin_con p0A 0 okP0
theorem hearA_con : ACon Try.prog 20 [.p (.agg (pzA 0 3 1 0)), .p (.agg (mzA 0 1 3 16 []))] (.tup [.p (.agg (pzA 16 3 2 16)), .p (.sl 46 [mzA 1 0 4 16 [[I 0, I 0]]]), .p (B true)]) := by
  have c := hear_con (beginP p0A 0) mA okP0 ⟨⟨by decide, by decide, by decide, by decide, fun t ht => (by cases ht), by decide⟩, by decide, fun t ht => (by cases ht), by decide, fun t ht => (by cases ht)⟩ (by decide)
  have e : hearR (beginP p0A 0) mA = ⟨promP (beginP p0A 0) mA, [promM (beginP p0A 0) mA], true⟩ := by rfl
  rw [e] at c
  exact c
set_option maxHeartbeats 2000000 in
theorem awake22 : ACon Try.prog 9 [] (.p (B true)) := by
  have c1 := start22_con
  have c2 := beginA_con
  have c3 := hearA_con
  refine wBody Try.tab Try.mixed Try.func9 rfl rfl Try.ntmps9 (by simp) (by simp) fun Q hr hn => ?_
  repeat' first | (refine CallE.pure (c1) rfl ?_) | (refine CallE.lent (c1) rfl ?_) | (refine CallF.pure (c1) rfl ?_) | (refine CallF.lent (c1) rfl ?_) | (refine CallE.own (c1) ?_) | (refine CallH.pure (c1) rfl ?_) | (refine CallH.lent (c1) rfl ?_) | (refine CallH.own (c1) ?_) | (refine CallE.pure (c2) rfl ?_) | (refine CallE.lent (c2) rfl ?_) | (refine CallF.pure (c2) rfl ?_) | (refine CallF.lent (c2) rfl ?_) | (refine CallE.own (c2) ?_) | (refine CallH.pure (c2) rfl ?_) | (refine CallH.lent (c2) rfl ?_) | (refine CallH.own (c2) ?_) | (refine CallE.pure (c3) rfl ?_) | (refine CallE.lent (c3) rfl ?_) | (refine CallF.pure (c3) rfl ?_) | (refine CallF.lent (c3) rfl ?_) | (refine CallE.own (c3) ?_) | (refine CallH.pure (c3) rfl ?_) | (refine CallH.lent (c3) rfl ?_) | (refine CallH.own (c3) ?_) | (refine hK _ ?_; clear hK) | (refine hK _ _ ?_; clear hK) | (clear hK; refine hK _ ?_; clear hK) | (clear hK; clear hK; refine hK _ ?_; clear hK) | (clear hK; clear hK; clear hK; refine hK _ ?_; clear hK) | (clear hK; clear hK; clear hK; clear hK; refine hK _ ?_; clear hK) | (refine wSeq fun K hK => ?_) | ((first | refine wReg ?_ | refine wDrwQ rfl (by kernel_rfl) ?_ | refine wDrwI ?_ | refine wDrw (by kernel_rfl) ?_); simp only [List.map_cons, List.map_nil, strip]) | ((first | refine wIs fun K hK => ?_ | refine wOs fun K hK => ?_ | refine wQs fun K hK => ?_ | refine CallK_plain ?_ | refine CallQ_plain ?_ | refine CallR_plain ?_ | refine wCond ?_); simp [show ByteArray.empty = bs [] from rfl]) | (refine wIn ?_; refine And.intro (by kernel_rfl) ?_; try simp only [thenA_n]) | (first | refine wBlock ?_ | refine wScope ?_) | ((first | refine wRet ?_ | refine wExit ?_ | refine wSkip ?_); try simp) | ((first | refine wLabel ?_ | refine wOn ?_ | refine wQn ?_); try simp only [thenA_n])
  all_goals apply hr
  all_goals simp [Try.f9]
end Go.Proofs.Yteicecbjahhjmaa
