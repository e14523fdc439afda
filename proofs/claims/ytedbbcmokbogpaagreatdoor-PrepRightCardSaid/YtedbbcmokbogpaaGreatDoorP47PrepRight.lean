/- Texts that the proof needs: PRA. -/
import Derived.Test.YtedbbcmokbogpaaGreatDoorP46PrepRight
namespace Go.Proofs.YtedbbcmokbogpaaGreatDoor
set_option linter.unusedSimpArgs false
set_option linter.unusedVariables false
set_option maxRecDepth 8000
open Go Go.Av
attribute [local irreducible] Go.Av.yT Go.Av.zU Go.Av.yN Go.Av.zT Go.Av.yP Go.Av.zV Go.Av.Con
def rp0 : Rp := ⟨0, 0, 0, [], ⟨0, [], []⟩, 0, 0⟩
theorem farP9_not {s : Sv} {r : Rp} (h : farP9 s r = false) : r.ops.length <= 20 /\ nSum s r <= 5000 := by
 unfold farP9 at h
 simp only [Bool.or_eq_false_iff,decide_eq_false_iff_not] at h
 omega
set_option maxHeartbeats 4000000 in
theorem prepRight_con (s : Sv) (hz : ∀ z ∈ s.ns, long z) (hb : Bd9 s rp0) : zF Tryz.prog 3 [.p (.agg s.cells)] (.p (B true)) := by
 have c1:=far9_con s rp0 hb
 cases hf : farP9 s rp0 with
 | true =>
  rw [hf] at c1
  simp only [rp0,Rp.cells,oqs,mbs,ints,wM] at c1
  unfold Sv.cells at *
  refine zG Tryz.tab Tryz.mixed Tryz.func3 rfl rfl Tryz.ntmps3 (by simp) (by simp) fun Q hr hn=>?_
  repeat' first|(refine hK _ ?_;clear hK)|(refine hK _ _ ?_;clear hK)|(clear hK;refine hK _ ?_;clear hK)|(clear hK;clear hK;refine hK _ ?_;clear hK)|(clear hK;clear hK;clear hK;refine hK _ ?_;clear hK)|(clear hK;clear hK;clear hK;clear hK;refine hK _ ?_;clear hK)|(refine zJ fun K hK=>?_)|((first | refine zH ?_ | refine zN rfl (by kernel_rfl) ?_ | refine zM ?_ | refine zK (by kernel_rfl) ?_);simp only [wN,wM,strip])|((first | refine wIs fun K hK=>?_ | refine wOs fun K hK=>?_ | refine wQs fun K hK=>?_ | refine zW ?_ | refine zX ?_ | refine zY ?_ | refine zL ?_);simp)|(refine wIn ?_;refine And.intro (by kernel_rfl) ?_;try simp only [zZ])|(first | refine zQ ?_ | refine zS ?_)|((first | refine zI ?_ | refine zO ?_ | refine zP ?_);try simp)|((first | refine zR ?_ | refine wOn ?_ | refine wQn ?_);try simp only [zZ])|(refine zU.pure (c1) rfl ?_)|(refine zU.lent (c1) rfl ?_)|(refine zT.pure (c1) rfl ?_)|(refine zT.lent (c1) rfl ?_)|(refine zU.own (c1) ?_)|(refine zV.pure (c1) rfl ?_)|(refine zV.lent (c1) rfl ?_)|(refine zV.own (c1) ?_)|(refine zU.pure (xY) rfl ?_)|(refine zU.lent (xY) rfl ?_)|(refine zT.pure (xY) rfl ?_)|(refine zT.lent (xY) rfl ?_)|(refine zU.own (xY) ?_)|(refine zV.pure (xY) rfl ?_)|(refine zV.lent (xY) rfl ?_)|(refine zV.own (xY) ?_)
  all_goals apply hr
  all_goals simp [Tryz.f3]
 | false =>
  rw [hf] at c1
  have hm : s.c.ms.length <= 1000000 := by
   have:=(farP9_not hf).2
   unfold nSum at this;omega
  have c2:=rightP_con s hz hm
  have c3:=rightP09_con s hz hm
  generalize rgtS s = b at *
  simp only [rp0,Rp.cells,oqs,mbs,ints,wM] at c1
  unfold Sv.cells at *
  clear hf
  cases b
  all_goals
   refine zG Tryz.tab Tryz.mixed Tryz.func3 rfl rfl Tryz.ntmps3 (by simp) (by simp) fun Q hr hn=>?_
   repeat' first|(refine hK _ ?_;clear hK)|(refine hK _ _ ?_;clear hK)|(clear hK;refine hK _ ?_;clear hK)|(clear hK;clear hK;refine hK _ ?_;clear hK)|(clear hK;clear hK;clear hK;refine hK _ ?_;clear hK)|(clear hK;clear hK;clear hK;clear hK;refine hK _ ?_;clear hK)|(refine zJ fun K hK=>?_)|((first | refine zH ?_ | refine zN rfl (by kernel_rfl) ?_ | refine zM ?_ | refine zK (by kernel_rfl) ?_);simp only [wN,wM,strip])|((first | refine wIs fun K hK=>?_ | refine wOs fun K hK=>?_ | refine wQs fun K hK=>?_ | refine zW ?_ | refine zX ?_ | refine zY ?_ | refine zL ?_);simp)|(refine wIn ?_;refine And.intro (by kernel_rfl) ?_;try simp only [zZ])|(first | refine zQ ?_ | refine zS ?_)|((first | refine zI ?_ | refine zO ?_ | refine zP ?_);try simp)|((first | refine zR ?_ | refine wOn ?_ | refine wQn ?_);try simp only [zZ])|(refine zU.pure (c1) rfl ?_)|(refine zU.lent (c1) rfl ?_)|(refine zT.pure (c1) rfl ?_)|(refine zT.lent (c1) rfl ?_)|(refine zU.own (c1) ?_)|(refine zV.pure (c1) rfl ?_)|(refine zV.lent (c1) rfl ?_)|(refine zV.own (c1) ?_)|(refine zU.pure (c2) rfl ?_)|(refine zU.lent (c2) rfl ?_)|(refine zT.pure (c2) rfl ?_)|(refine zT.lent (c2) rfl ?_)|(refine zU.own (c2) ?_)|(refine zV.pure (c2) rfl ?_)|(refine zV.lent (c2) rfl ?_)|(refine zV.own (c2) ?_)|(refine zU.pure (c3) rfl ?_)|(refine zU.lent (c3) rfl ?_)|(refine zT.pure (c3) rfl ?_)|(refine zT.lent (c3) rfl ?_)|(refine zU.own (c3) ?_)|(refine zV.pure (c3) rfl ?_)|(refine zV.lent (c3) rfl ?_)|(refine zV.own (c3) ?_)|(refine zU.pure (xY) rfl ?_)|(refine zU.lent (xY) rfl ?_)|(refine zT.pure (xY) rfl ?_)|(refine zT.lent (xY) rfl ?_)|(refine zU.own (xY) ?_)|(refine zV.pure (xY) rfl ?_)|(refine zV.lent (xY) rfl ?_)|(refine zV.own (xY) ?_)
   all_goals apply hr
   all_goals simp [Tryz.f3]
end Go.Proofs.YtedbbcmokbogpaaGreatDoor
