/- Votes: what is the same cause. -/
import Derived.Test.YtehopfedgkmalaaTab
import Derived.Test.YtehopfedgkmalaaAvSimp
namespace Go.Proofs.Ytehopfedgkmalaa
set_option linter.unusedSimpArgs false
set_option linter.unusedVariables false
open Go Go.Av
attribute [local simp] Try.T
attribute [local irreducible] Go.Av.CallK Go.Av.CallE Go.Av.CallQ Go.Av.CallF Go.Av.Con

structure Vt where
  (f r e le ln c m : Int)
  deriving DecidableEq
def Vt.cells (v : Vt) : List PV := [I v.f, I v.r, I v.e, I v.le, I v.ln, I v.c, I v.m]
def cause (a b : Vt) : Bool := decide (a.r = b.r ∧ a.e = b.e ∧ a.le = b.le ∧ a.ln = b.ln ∧ a.c = b.c)
set_option maxHeartbeats 4000000 in
theorem sameCause_con (a b : Vt) : ACon Try.prog 54 [.p (.agg a.cells), .p (.agg b.cells)] (.p (B (cause a b))) := by
  obtain ⟨a0, a1, a2, a3, a4, a5, a6⟩ := a
  obtain ⟨b0, b1, b2, b3, b4, b5, b6⟩ := b
  simp only [Vt.cells, cause]
  refine wBody Try.tab Try.mixed Try.func54 rfl rfl Try.ntmps54 (by simp) (by simp) fun Q hr hn => ?_
  repeat' first | (refine wDrwA ?_) | (refine wTs (by decide +kernel) ?_) | (refine wTz (by decide +kernel) ?_) | (refine And.intro (skipT (by decide +kernel)) ?_) | (refine And.intro (fun _ => ?_) ?_; simp only [strip]) | (exact True.intro) | (refine hK _ ?_; clear hK) | (clear hK; refine hK _ ?_; clear hK) | (clear hK; clear hK; refine hK _ ?_; clear hK) | (clear hK; clear hK; clear hK; refine hK _ ?_; clear hK) | (clear hK; clear hK; clear hK; clear hK; refine hK _ ?_; clear hK) | (refine wSeq fun K hK => ?_) | (refine wReg ?_; simp only [List.map_cons, List.map_nil, strip]) | (refine wDrw (by kernel_rfl) ?_; simp only [List.map_cons, List.map_nil, strip]) | (refine wOs fun K hK => ?_; simp) | (refine wQs fun K hK => ?_; simp) | (refine CallK_plain ?_; simp) | (refine CallQ_plain ?_; simp) | (refine wRet ?_; try simp) | (refine wCond ?_; simp) | (refine wBlock ?_) | (refine wExit ?_; try simp) | (refine wSkip ?_; try simp) | (refine wOn ?_; try simp only [thenA_n]) | (refine wQn ?_; try simp only [thenA_n])
  all_goals apply hr
  all_goals simp [Try.f54]
  all_goals (rw [Bool.eq_iff_iff]; simp)
end Go.Proofs.Ytehopfedgkmalaa
