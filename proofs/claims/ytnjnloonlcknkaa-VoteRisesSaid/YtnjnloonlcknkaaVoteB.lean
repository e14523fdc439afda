import Derived.Test.YtnjnloonlcknkaaVoteA
namespace Go.Proofs.Ytnjnloonlcknkaa
set_option linter.unusedSimpArgs false
set_option linter.unusedVariables false
open Go Go.Av
attribute [local simp] Try.T

theorem awake17_con : ACon Try.prog 18 [] (.p (B true)) := by
  have h := best_con [⟨0, 0, 3, 3, 6, 2, 0⟩, ⟨0, 0, 3, 3, 7, 1, 0⟩]
  rw [show best [⟨0, 0, 3, 3, 6, 2, 0⟩, ⟨0, 0, 3, 3, 7, 1, 0⟩] = ⟨0, 0, 3, 3, 7, 1, 0⟩ from by decide] at h
  simp [Vt.cells] at h
  have h1 := better_con ⟨0, 0, 3, 3, 7, 1, 0⟩ ⟨0, 0, 3, 3, 6, 2, 0⟩
  rw [show better ⟨0, 0, 3, 3, 7, 1, 0⟩ ⟨0, 0, 3, 3, 6, 2, 0⟩ = true from by decide] at h1
  have h2 := better_con ⟨0, 0, 3, 3, 6, 2, 0⟩ ⟨0, 0, 3, 3, 7, 1, 0⟩
  rw [show better ⟨0, 0, 3, 3, 6, 2, 0⟩ ⟨0, 0, 3, 3, 7, 1, 0⟩ = false from by decide] at h2
  simp only [Vt.cells] at h1 h2
  refine wBody Try.tab Try.mixed Try.func18 rfl rfl Try.ntmps18 (by simp) fun Q hr hn => ?_
  repeat' first | (refine hK _ ?_; clear hK) | (clear hK; refine hK _ ?_; clear hK) | (clear hK; clear hK; refine hK _ ?_; clear hK) | (clear hK; clear hK; clear hK; refine hK _ ?_; clear hK) | (clear hK; clear hK; clear hK; clear hK; refine hK _ ?_; clear hK) | (refine wSeq fun K hK => ?_) | (refine wReg ?_; simp only [List.map_cons, List.map_nil, strip]) | (refine wDrw (by kernel_rfl) ?_; simp only [List.map_cons, List.map_nil, strip]) | (refine wOs fun K hK => ?_; simp) | (refine wQs fun K hK => ?_; simp) | (refine CallK_plain ?_; simp) | (refine wRet ?_; try simp) | (refine wCond ?_; simp) | (refine wBlock ?_) | (refine wExit ?_; try simp) | (refine wSkip ?_; try simp) | (refine wOn ?_; try simp only [thenA_n]) | (refine wQn ?_; try simp only [thenA_n]) | (refine ⟨_, h, rfl, ?_⟩) | (refine CallE.pure (h) rfl ?_) | (refine ⟨_, h1, rfl, ?_⟩) | (refine CallE.pure (h1) rfl ?_) | (refine ⟨_, h2, rfl, ?_⟩) | (refine CallE.pure (h2) rfl ?_)
  apply hr
  simp [Try.f18]

end Go.Proofs.Ytnjnloonlcknkaa
