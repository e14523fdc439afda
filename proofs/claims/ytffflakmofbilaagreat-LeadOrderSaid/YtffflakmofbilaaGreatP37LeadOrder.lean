/- Texts that the proof needs: LD10h LD10D LD10b1 LD10b2 LD10b3. -/
import Derived.Test.YtffflakmofbilaaGreatP35LeadOrder
import Derived.Test.YtffflakmofbilaaGreatP30LeadOrder
import Derived.Test.YtffflakmofbilaaGreatP31LeadOrder
import Derived.Test.YtffflakmofbilaaGreatP33LeadOrder
namespace Go.Proofs.YtffflakmofbilaaGreat
set_option linter.unusedSimpArgs false
set_option linter.unusedVariables false
set_option maxRecDepth 8000
open Go Go.Av
attribute [local irreducible] Go.Av.yA Go.Av.zR Go.Av.xZ Go.Av.zJ Go.Av.xV Go.Av.zG Go.Av.Con
set_option maxHeartbeats 4000000 in
theorem aheadP_con (p : Lq) (q : PV) (g : Bool) (m : Mg) (hl : p.h.lg.length <= 1000) (h0 : ¬ m.ms.length = 0) (hm : m.ms.length <= 1000000) : Con Tryz.prog 123 [.ptr 1024 0, .p (.agg m.cells)] (pW p q g) (.ret (.p (B (aheadQ p m))) [] (pW p q g)) := by
 have cL:=lastH_con p.h hl
 have cC:=uD (m.ms.getD (m.ms.length - 1) ⟨0,0⟩).e (m.ms.getD (m.ms.length - 1) ⟨0,0⟩).n (zA p.h).e (zA p.h).n
 have hA : aheadQ p m = if ¬ m.cu = p.cu then decide (p.cu < m.cu) else decide (0 < xN (m.ms.getD (m.ms.length - 1) ⟨0,0⟩).e (m.ms.getD (m.ms.length - 1) ⟨0,0⟩).n (zA p.h).e (zA p.h).n):=rfl
 rw [hA]
 clear hA
 unfold pW
 by_cases h1 : m.cu = p.cu
 case neg =>
  rw [if_pos h1]
  have h1' : (m.cu = p.cu) = False:=eq_false h1
  clear h1
  by_cases h2 : p.cu < m.cu
  ·rw [decide_eq_true h2]
   refine zE Tryz.tab Tryz.mixed Tryz.func123 rfl rfl Tryz.ntmps123 (by simp) (by simp) fun Q hr hn hp=>?_
   repeat' first|(refine hK _ ?_;clear hK)|(refine zT fun K hK=>?_)|((first | refine zS ?_ | refine yZ rfl (by kernel_rfl) ?_);simp only [tZ,tY,strip])|((first | refine wOs fun K hK=>?_ | refine wQs fun K hK=>?_ | refine zW ?_);simp [h1',h2])|(refine zL ?_;try simp)|((first | refine wOn ?_ | refine wQn ?_);try simp only [zZ])
   all_goals first | apply hr
   all_goals refine ⟨[],by simp,by simp,?_⟩
   all_goals simp [Tryz.f123,yL,yM,zO,zX]
  ·rw [decide_eq_false h2]
   refine zE Tryz.tab Tryz.mixed Tryz.func123 rfl rfl Tryz.ntmps123 (by simp) (by simp) fun Q hr hn hp=>?_
   repeat' first|(refine hK _ ?_;clear hK)|(refine zT fun K hK=>?_)|((first | refine zS ?_ | refine yZ rfl (by kernel_rfl) ?_);simp only [tZ,tY,strip])|((first | refine wOs fun K hK=>?_ | refine wQs fun K hK=>?_ | refine zW ?_);simp [h1',h2])|(refine zL ?_;try simp)|((first | refine wOn ?_ | refine wQn ?_);try simp only [zZ])
   all_goals first | apply hr
   all_goals refine ⟨[],by simp,by simp,?_⟩
   all_goals simp [Tryz.f123,yL,yM,zO,zX]
 rw [if_neg (not_not_intro h1)]
 have h1' : (m.cu = p.cu) = True:=eq_true h1
 clear h1
 obtain ⟨j,hj⟩ : ∃ j,m.ms.length = j + 1:=⟨m.ms.length - 1,by omega⟩
 have hw : IntKind.i64.wrap ((m.ms.length : Int) - 1) = (j : Int):=by rw [yV] <;> omega
 have hw' : IntKind.i64.wrap (j : Int) = (j : Int):=by rw [yV] <;> omega
 have hjl : j < m.ms.length:=by omega
 have he : (zxs m.ms)[j]? = some [I (m.ms.getD (m.ms.length - 1) ⟨0, 0⟩).e, I (m.ms.getD (m.ms.length - 1) ⟨0, 0⟩).n] := by
  rw [show (zxs m.ms)[j]? = some [I m.ms[j].e,I m.ms[j].n] by simp [zxs,hjl]]
  have : m.ms.getD (m.ms.length - 1) ⟨0,0⟩ = m.ms[j]:=by rw [hj,List.getD_eq_getElem?_getD];simp [hjl]
  rw [this]
 have hz : m.ms.getD (m.ms.length - 1) ⟨0,0⟩ = m.ms[j]:=by rw [hj,List.getD_eq_getElem?_getD];simp [hjl]
 rw [hz] at cC he ⊢
 generalize zA p.h = last at *
 generalize xN m.ms[j].e m.ms[j].n last.e last.n = zz at *
 by_cases h2 : 0 < zz
 ·rw [decide_eq_true h2]
  refine zE Tryz.tab Tryz.mixed Tryz.func123 rfl rfl Tryz.ntmps123 (by simp) (by simp) fun Q hr hn hp=>?_
  repeat' first|(refine zJ.pure (cL) rfl ?_)|(refine zJ.pure (cC) rfl ?_)|(refine hK _ ?_;clear hK)|(refine zT fun K hK=>?_)|((first | refine zS ?_ | refine yZ rfl (by kernel_rfl) ?_);simp only [tZ,tY,strip])|((first | refine wOs fun K hK=>?_ | refine wQs fun K hK=>?_ | refine zM ?_ | refine zW ?_);simp [h1',h2,hw',hj])|((first | refine zL ?_ | refine zP ?_);try simp)|((first | refine wOn ?_ | refine wQn ?_);try simp only [zZ])
  all_goals first | apply hr
  all_goals refine ⟨[],by simp,by simp,?_⟩
  all_goals simp [Tryz.f123,yL,yM,zO,zX]
 ·rw [decide_eq_false h2]
  refine zE Tryz.tab Tryz.mixed Tryz.func123 rfl rfl Tryz.ntmps123 (by simp) (by simp) fun Q hr hn hp=>?_
  repeat' first|(refine zJ.pure (cL) rfl ?_)|(refine zJ.pure (cC) rfl ?_)|(refine hK _ ?_;clear hK)|(refine zT fun K hK=>?_)|((first | refine zS ?_ | refine yZ rfl (by kernel_rfl) ?_);simp only [tZ,tY,strip])|((first | refine wOs fun K hK=>?_ | refine wQs fun K hK=>?_ | refine zM ?_ | refine zW ?_);simp [h1',h2,hw',hj])|((first | refine zL ?_ | refine zP ?_);try simp)|((first | refine wOn ?_ | refine wQn ?_);try simp only [zZ])
  all_goals first | apply hr
  all_goals refine ⟨[],by simp,by simp,?_⟩
  all_goals simp [Tryz.f123,yL,yM,zO,zX]
def ackGo (P1 : Lq) (g : Bool) (o : List Mg) (m : Mg) (R1 : Lr) : Sq := if R1.id ∈ zI P1 /\ aheadQ P1 m = true then ⟨P1, true, o⟩ else xJ ((⟨P1, g, o⟩ : Sq).lay { R1 with ph := 2, cu := m.cu, ms := m.ms, q := 0 })
end Go.Proofs.YtffflakmofbilaaGreat
