/- Layer 3: what lies below a path: path.below, path.Below. -/
import Derived.Test.YtpbmicfbghnmeaaDoorPC
namespace Go.Proofs.YtpbmicfbghnmeaaDoor
set_option linter.unusedSimpArgs false
set_option linter.unusedVariables false
open Go Go.Av
attribute [local simp] Tryd.T1 Tryd.T2 Tryd.T3 Tryd.T4 Tryd.T5 Tryd.T9 Tryd.T12 Tryd.T21 Tryd.T22 Tryd.T23 Tryd.T25 Tryd.T26 Tryd.T27 Tryd.T28 Tryd.T29 Tryd.T30 Tryd.T32 Tryd.T33 Tryd.T34 Tryd.T35 Tryd.T36 Tryd.T37 Tryd.T38 Tryd.T39 Tryd.T40 Tryd.T41 Tryd.T42 Tryd.T43 Tryd.T44 Tryd.T45 Tryd.T47 Tryd.T51 Tryd.T55 Tryd.T56 Tryd.T57 Tryd.T58 Tryd.T60 Tryd.T61 Tryd.T62 Tryd.T63 Tryd.T65 Tryd.T67 Tryd.T68 Tryd.T69 Tryd.T70 Tryd.T72 Tryd.T74 Tryd.T75 Tryd.T76 Tryd.T77 Tryd.T79 Tryd.T80 Tryd.T81 Tryd.T82 Tryd.T83 Tryd.T91
attribute [local irreducible] Go.Av.CallK Go.Av.CallE Go.Av.CallQ Go.Av.CallF Go.Av.Con

def hsx (l : List UInt8) : Bool := decide (l.drop (l.length - 1) = [47])
def trm (l : List UInt8) : List UInt8 := if hsx l = true then l.take (l.length - 1) else l
def bel (l : List UInt8) : List UInt8 := trm l ++ [47]
def hpx (p q : List UInt8) : Bool := decide (q.length ≤ p.length ∧ p.take q.length = q)
def blw (p q : List UInt8) : Bool := decide (chk p = 0 ∧ chk q = 0 ∧ p ≠ q) && hpx p (bel q)
theorem hasSuffix_con (l : List UInt8) (hl : l.length ≤ 9223372036854775807) : ACon Tryd.prog 61 [.p (SB l), .p (SB [47])] (.p (B (hsx l))) := by
  unfold hsx
  by_cases h0 : l = []
  · subst h0
    refine wBody Tryd.tab Tryd.mixed Tryd.func61 rfl rfl Tryd.ntmps61 (by simp) (by simp) fun Q hr hn => ?_
    repeat' first | (refine hK _ ?_; clear hK) | (refine hK _ _ ?_; clear hK) | (clear hK; refine hK _ ?_; clear hK) | (clear hK; clear hK; refine hK _ ?_; clear hK) | (clear hK; clear hK; clear hK; refine hK _ ?_; clear hK) | (clear hK; clear hK; clear hK; clear hK; refine hK _ ?_; clear hK) | (refine wSeq fun K hK => ?_) | (refine wReg ?_; simp only [List.map_cons, List.map_nil, strip]) | (refine wDrwQ rfl (by kernel_rfl) ?_; simp only [List.map_cons, List.map_nil, strip]) | (refine wDrwI ?_; simp only [List.map_cons, List.map_nil, strip]) | (refine wDrw (by kernel_rfl) ?_; simp only [List.map_cons, List.map_nil, strip]) | (refine wIs fun K hK => ?_; simp) | (refine wIn ?_; refine And.intro (by kernel_rfl) ?_; try simp only [thenA_n]) | (refine wOs fun K hK => ?_; simp) | (refine wQs fun K hK => ?_; simp) | (refine CallK_plain ?_; simp) | (refine CallQ_plain ?_; simp) | (refine wRet ?_; try simp) | (refine wCond ?_; simp) | (refine wBlock ?_) | (refine wScope ?_) | (refine wLabel ?_; try simp only [thenA_n]) | (refine wExit ?_; try simp) | (refine wSkip ?_; try simp) | (refine wOn ?_; try simp only [thenA_n]) | (refine wQn ?_; try simp only [thenA_n])
    all_goals apply hr
    all_goals simp [Tryd.f61]
  · have h1 : 1 ≤ l.length := List.length_pos_iff.2 h0
    have h1' : (1 : Int) ≤ l.length := by omega
    have h2 : l.length - 1 ≤ l.length := by omega
    have hw : IntKind.i64.wrap ((l.length : Int) - 1) = ((l.length - 1 : Nat) : Int) := by rw [wrap_id] <;> omega
    by_cases d : l.drop (l.length - 1) = [47]
    · rw [show decide (l.drop (l.length - 1) = [47]) = true by simpa using d]
      refine wBody Tryd.tab Tryd.mixed Tryd.func61 rfl rfl Tryd.ntmps61 (by simp) (by simp) fun Q hr hn => ?_
      repeat' first | (refine hK _ ?_; clear hK) | (refine hK _ _ ?_; clear hK) | (clear hK; refine hK _ ?_; clear hK) | (clear hK; clear hK; refine hK _ ?_; clear hK) | (clear hK; clear hK; clear hK; refine hK _ ?_; clear hK) | (clear hK; clear hK; clear hK; clear hK; refine hK _ ?_; clear hK) | (refine wSeq fun K hK => ?_) | (refine wReg ?_; simp only [List.map_cons, List.map_nil, strip]) | (refine wDrwQ rfl (by kernel_rfl) ?_; simp only [List.map_cons, List.map_nil, strip]) | (refine wDrwI ?_; simp only [List.map_cons, List.map_nil, strip]) | (refine wDrw (by kernel_rfl) ?_; simp only [List.map_cons, List.map_nil, strip]) | (refine wIs fun K hK => ?_; simp [h0, h1, h1', h2, hw, d]) | (refine wIn ?_; refine And.intro (by kernel_rfl) ?_; try simp only [thenA_n]) | (refine wOs fun K hK => ?_; simp [h0, h1, h1', h2, hw, d]) | (refine wQs fun K hK => ?_; simp [h0, h1, h1', h2, hw, d]) | (refine CallK_plain ?_; simp [h0, h1, h1', h2, hw, d]) | (refine CallQ_plain ?_; simp [h0, h1, h1', h2, hw, d]) | (refine wRet ?_; try simp) | (refine wCond ?_; simp [h0, h1, h1', h2, hw, d]) | (refine wBlock ?_) | (refine wScope ?_) | (refine wLabel ?_; try simp only [thenA_n]) | (refine wExit ?_; try simp) | (refine wSkip ?_; try simp) | (refine wOn ?_; try simp only [thenA_n]) | (refine wQn ?_; try simp only [thenA_n])
      all_goals apply hr
      all_goals simp [Tryd.f61]
    · rw [show decide (l.drop (l.length - 1) = [47]) = false by simpa using d]
      refine wBody Tryd.tab Tryd.mixed Tryd.func61 rfl rfl Tryd.ntmps61 (by simp) (by simp) fun Q hr hn => ?_
      repeat' first | (refine hK _ ?_; clear hK) | (refine hK _ _ ?_; clear hK) | (clear hK; refine hK _ ?_; clear hK) | (clear hK; clear hK; refine hK _ ?_; clear hK) | (clear hK; clear hK; clear hK; refine hK _ ?_; clear hK) | (clear hK; clear hK; clear hK; clear hK; refine hK _ ?_; clear hK) | (refine wSeq fun K hK => ?_) | (refine wReg ?_; simp only [List.map_cons, List.map_nil, strip]) | (refine wDrwQ rfl (by kernel_rfl) ?_; simp only [List.map_cons, List.map_nil, strip]) | (refine wDrwI ?_; simp only [List.map_cons, List.map_nil, strip]) | (refine wDrw (by kernel_rfl) ?_; simp only [List.map_cons, List.map_nil, strip]) | (refine wIs fun K hK => ?_; simp [h0, h1, h1', h2, hw, d]) | (refine wIn ?_; refine And.intro (by kernel_rfl) ?_; try simp only [thenA_n]) | (refine wOs fun K hK => ?_; simp [h0, h1, h1', h2, hw, d]) | (refine wQs fun K hK => ?_; simp [h0, h1, h1', h2, hw, d]) | (refine CallK_plain ?_; simp [h0, h1, h1', h2, hw, d]) | (refine CallQ_plain ?_; simp [h0, h1, h1', h2, hw, d]) | (refine wRet ?_; try simp) | (refine wCond ?_; simp [h0, h1, h1', h2, hw, d]) | (refine wBlock ?_) | (refine wScope ?_) | (refine wLabel ?_; try simp only [thenA_n]) | (refine wExit ?_; try simp) | (refine wSkip ?_; try simp) | (refine wOn ?_; try simp only [thenA_n]) | (refine wQn ?_; try simp only [thenA_n])
      all_goals apply hr
      all_goals simp [Tryd.f61, d]
theorem trimL_con (l : List UInt8) (hl : l.length ≤ 9223372036854775807) : ACon Tryd.prog 51 [.p (SB l), .p (SB [47])] (.p (SB (trm l))) := by
  have c := hasSuffix_con l hl
  unfold trm
  cases h : hsx l
  · rw [h] at c
    rw [if_neg (by simp)]
    refine wBody Tryd.tab Tryd.mixed Tryd.func51 rfl rfl Tryd.ntmps51 (by simp) (by simp) fun Q hr hn => ?_
    repeat' first | (refine hK _ ?_; clear hK) | (refine hK _ _ ?_; clear hK) | (clear hK; refine hK _ ?_; clear hK) | (clear hK; clear hK; refine hK _ ?_; clear hK) | (clear hK; clear hK; clear hK; refine hK _ ?_; clear hK) | (clear hK; clear hK; clear hK; clear hK; refine hK _ ?_; clear hK) | (refine wSeq fun K hK => ?_) | (refine wReg ?_; simp only [List.map_cons, List.map_nil, strip]) | (refine wDrwQ rfl (by kernel_rfl) ?_; simp only [List.map_cons, List.map_nil, strip]) | (refine wDrwI ?_; simp only [List.map_cons, List.map_nil, strip]) | (refine wDrw (by kernel_rfl) ?_; simp only [List.map_cons, List.map_nil, strip]) | (refine wIs fun K hK => ?_; simp) | (refine wIn ?_; refine And.intro (by kernel_rfl) ?_; try simp only [thenA_n]) | (refine wOs fun K hK => ?_; simp) | (refine wQs fun K hK => ?_; simp) | (refine CallK_plain ?_; simp) | (refine CallQ_plain ?_; simp) | (refine wRet ?_; try simp) | (refine wCond ?_; simp) | (refine wBlock ?_) | (refine wScope ?_) | (refine wLabel ?_; try simp only [thenA_n]) | (refine wExit ?_; try simp) | (refine wSkip ?_; try simp) | (refine wOn ?_; try simp only [thenA_n]) | (refine wQn ?_; try simp only [thenA_n]) | (refine CallE.pure (c) rfl ?_) | (refine CallE.lent (c) rfl ?_) | (refine CallF.pure (c) rfl ?_) | (refine CallF.lent (c) rfl ?_) | (refine CallE.own (c) ?_)
    all_goals apply hr
    all_goals simp [Tryd.f51]
  · rw [h] at c
    rw [if_pos rfl]
    have h1 : 1 ≤ l.length := by
      cases l with
      | nil => simp [hsx] at h
      | cons a r => simp
    have h2 : l.length - 1 ≤ l.length := by omega
    have hw : IntKind.i64.wrap ((l.length : Int) - 1) = ((l.length - 1 : Nat) : Int) := by rw [wrap_id] <;> omega
    refine wBody Tryd.tab Tryd.mixed Tryd.func51 rfl rfl Tryd.ntmps51 (by simp) (by simp) fun Q hr hn => ?_
    repeat' first | (refine hK _ ?_; clear hK) | (refine hK _ _ ?_; clear hK) | (clear hK; refine hK _ ?_; clear hK) | (clear hK; clear hK; refine hK _ ?_; clear hK) | (clear hK; clear hK; clear hK; refine hK _ ?_; clear hK) | (clear hK; clear hK; clear hK; clear hK; refine hK _ ?_; clear hK) | (refine wSeq fun K hK => ?_) | (refine wReg ?_; simp only [List.map_cons, List.map_nil, strip]) | (refine wDrwQ rfl (by kernel_rfl) ?_; simp only [List.map_cons, List.map_nil, strip]) | (refine wDrwI ?_; simp only [List.map_cons, List.map_nil, strip]) | (refine wDrw (by kernel_rfl) ?_; simp only [List.map_cons, List.map_nil, strip]) | (refine wIs fun K hK => ?_; simp [h1, h2, hw]) | (refine wIn ?_; refine And.intro (by kernel_rfl) ?_; try simp only [thenA_n]) | (refine wOs fun K hK => ?_; simp [h1, h2, hw]) | (refine wQs fun K hK => ?_; simp [h1, h2, hw]) | (refine CallK_plain ?_; simp [h1, h2, hw]) | (refine CallQ_plain ?_; simp [h1, h2, hw]) | (refine wRet ?_; try simp) | (refine wCond ?_; simp [h1, h2, hw]) | (refine wBlock ?_) | (refine wScope ?_) | (refine wLabel ?_; try simp only [thenA_n]) | (refine wExit ?_; try simp) | (refine wSkip ?_; try simp) | (refine wOn ?_; try simp only [thenA_n]) | (refine wQn ?_; try simp only [thenA_n]) | (refine CallE.pure (c) rfl ?_) | (refine CallE.lent (c) rfl ?_) | (refine CallF.pure (c) rfl ?_) | (refine CallF.lent (c) rfl ?_) | (refine CallE.own (c) ?_)
    all_goals apply hr
    all_goals simp [Tryd.f51]
theorem trim_con (l : List UInt8) (hl : l.length ≤ 9223372036854775807) : ACon Tryd.prog 41 [.p (SB l), .p (SB [47])] (.p (SB (trm l))) := by
  have c := trimL_con l hl
  refine wBody Tryd.tab Tryd.mixed Tryd.func41 rfl rfl Tryd.ntmps41 (by simp) (by simp) fun Q hr hn => ?_
  repeat' first | (refine hK _ ?_; clear hK) | (refine hK _ _ ?_; clear hK) | (clear hK; refine hK _ ?_; clear hK) | (clear hK; clear hK; refine hK _ ?_; clear hK) | (clear hK; clear hK; clear hK; refine hK _ ?_; clear hK) | (clear hK; clear hK; clear hK; clear hK; refine hK _ ?_; clear hK) | (refine wSeq fun K hK => ?_) | (refine wReg ?_; simp only [List.map_cons, List.map_nil, strip]) | (refine wDrwQ rfl (by kernel_rfl) ?_; simp only [List.map_cons, List.map_nil, strip]) | (refine wDrwI ?_; simp only [List.map_cons, List.map_nil, strip]) | (refine wDrw (by kernel_rfl) ?_; simp only [List.map_cons, List.map_nil, strip]) | (refine wIs fun K hK => ?_; simp) | (refine wIn ?_; refine And.intro (by kernel_rfl) ?_; try simp only [thenA_n]) | (refine wOs fun K hK => ?_; simp) | (refine wQs fun K hK => ?_; simp) | (refine CallK_plain ?_; simp) | (refine CallQ_plain ?_; simp) | (refine wRet ?_; try simp) | (refine wCond ?_; simp) | (refine wBlock ?_) | (refine wScope ?_) | (refine wLabel ?_; try simp only [thenA_n]) | (refine wExit ?_; try simp) | (refine wSkip ?_; try simp) | (refine wOn ?_; try simp only [thenA_n]) | (refine wQn ?_; try simp only [thenA_n]) | (refine CallE.pure (c) rfl ?_) | (refine CallE.lent (c) rfl ?_) | (refine CallF.pure (c) rfl ?_) | (refine CallF.lent (c) rfl ?_) | (refine CallE.own (c) ?_)
  all_goals apply hr
  all_goals simp [Tryd.f41]
theorem trm_len (l : List UInt8) : (trm l).length ≤ l.length := by
  unfold trm; split <;> simp <;> omega
theorem below_con (l : List UInt8) (hl : l.length ≤ 9223372036854775806) : ACon Tryd.prog 31 [.p (SB l)] (.p (SB (bel l))) := by
  have c := trim_con l (by omega)
  have h1 := trm_len l
  have h2 : (trm l).length + 1 ≤ 9223372036854775807 := by omega
  have h3 : (trm l).length ≤ 9223372036854775806 := by omega
  unfold bel
  generalize trm l = t at c h2 h3
  refine wBody Tryd.tab Tryd.mixed Tryd.func31 rfl rfl Tryd.ntmps31 (by simp) (by simp) fun Q hr hn => ?_
  repeat' first | (refine hK _ ?_; clear hK) | (refine hK _ _ ?_; clear hK) | (clear hK; refine hK _ ?_; clear hK) | (clear hK; clear hK; refine hK _ ?_; clear hK) | (clear hK; clear hK; clear hK; refine hK _ ?_; clear hK) | (clear hK; clear hK; clear hK; clear hK; refine hK _ ?_; clear hK) | (refine wSeq fun K hK => ?_) | (refine wReg ?_; simp only [List.map_cons, List.map_nil, strip]) | (refine wDrwQ rfl (by kernel_rfl) ?_; simp only [List.map_cons, List.map_nil, strip]) | (refine wDrwI ?_; simp only [List.map_cons, List.map_nil, strip]) | (refine wDrw (by kernel_rfl) ?_; simp only [List.map_cons, List.map_nil, strip]) | (refine wIs fun K hK => ?_; simp [h2, h3]) | (refine wIn ?_; refine And.intro (by kernel_rfl) ?_; try simp only [thenA_n]) | (refine wOs fun K hK => ?_; simp [h2, h3]) | (refine wQs fun K hK => ?_; simp [h2, h3]) | (refine CallK_plain ?_; simp [h2, h3]) | (refine CallQ_plain ?_; simp [h2, h3]) | (refine wRet ?_; try simp) | (refine wCond ?_; simp [h2, h3]) | (refine wBlock ?_) | (refine wScope ?_) | (refine wLabel ?_; try simp only [thenA_n]) | (refine wExit ?_; try simp) | (refine wSkip ?_; try simp) | (refine wOn ?_; try simp only [thenA_n]) | (refine wQn ?_; try simp only [thenA_n]) | (refine CallE.pure (c) rfl ?_) | (refine CallE.lent (c) rfl ?_) | (refine CallF.pure (c) rfl ?_) | (refine CallF.lent (c) rfl ?_) | (refine CallE.own (c) ?_)
  all_goals apply hr
  all_goals simp [Tryd.f31]
theorem hasPrefixL_con (p q : List UInt8) : ACon Tryd.prog 48 [.p (SB p), .p (SB q)] (.p (B (hpx p q))) := by
  unfold hpx
  by_cases h : q.length ≤ p.length
  · have h' : (q.length : Int) ≤ p.length := by omega
    by_cases d : p.take q.length = q
    · rw [show decide (q.length ≤ p.length ∧ p.take q.length = q) = true by simpa using ⟨h, d⟩]
      refine wBody Tryd.tab Tryd.mixed Tryd.func48 rfl rfl Tryd.ntmps48 (by simp) (by simp) fun Q hr hn => ?_
      repeat' first | (refine hK _ ?_; clear hK) | (refine hK _ _ ?_; clear hK) | (clear hK; refine hK _ ?_; clear hK) | (clear hK; clear hK; refine hK _ ?_; clear hK) | (clear hK; clear hK; clear hK; refine hK _ ?_; clear hK) | (clear hK; clear hK; clear hK; clear hK; refine hK _ ?_; clear hK) | (refine wSeq fun K hK => ?_) | (refine wReg ?_; simp only [List.map_cons, List.map_nil, strip]) | (refine wDrwQ rfl (by kernel_rfl) ?_; simp only [List.map_cons, List.map_nil, strip]) | (refine wDrwI ?_; simp only [List.map_cons, List.map_nil, strip]) | (refine wDrw (by kernel_rfl) ?_; simp only [List.map_cons, List.map_nil, strip]) | (refine wIs fun K hK => ?_; simp [h, h', d]) | (refine wIn ?_; refine And.intro (by kernel_rfl) ?_; try simp only [thenA_n]) | (refine wOs fun K hK => ?_; simp [h, h', d]) | (refine wQs fun K hK => ?_; simp [h, h', d]) | (refine CallK_plain ?_; simp [h, h', d]) | (refine CallQ_plain ?_; simp [h, h', d]) | (refine wRet ?_; try simp) | (refine wCond ?_; simp [h, h', d]) | (refine wBlock ?_) | (refine wScope ?_) | (refine wLabel ?_; try simp only [thenA_n]) | (refine wExit ?_; try simp) | (refine wSkip ?_; try simp) | (refine wOn ?_; try simp only [thenA_n]) | (refine wQn ?_; try simp only [thenA_n])
      all_goals apply hr
      all_goals simp [Tryd.f48]
    · rw [show decide (q.length ≤ p.length ∧ p.take q.length = q) = false by simp [d]]
      refine wBody Tryd.tab Tryd.mixed Tryd.func48 rfl rfl Tryd.ntmps48 (by simp) (by simp) fun Q hr hn => ?_
      repeat' first | (refine hK _ ?_; clear hK) | (refine hK _ _ ?_; clear hK) | (clear hK; refine hK _ ?_; clear hK) | (clear hK; clear hK; refine hK _ ?_; clear hK) | (clear hK; clear hK; clear hK; refine hK _ ?_; clear hK) | (clear hK; clear hK; clear hK; clear hK; refine hK _ ?_; clear hK) | (refine wSeq fun K hK => ?_) | (refine wReg ?_; simp only [List.map_cons, List.map_nil, strip]) | (refine wDrwQ rfl (by kernel_rfl) ?_; simp only [List.map_cons, List.map_nil, strip]) | (refine wDrwI ?_; simp only [List.map_cons, List.map_nil, strip]) | (refine wDrw (by kernel_rfl) ?_; simp only [List.map_cons, List.map_nil, strip]) | (refine wIs fun K hK => ?_; simp [h, h', d]) | (refine wIn ?_; refine And.intro (by kernel_rfl) ?_; try simp only [thenA_n]) | (refine wOs fun K hK => ?_; simp [h, h', d]) | (refine wQs fun K hK => ?_; simp [h, h', d]) | (refine CallK_plain ?_; simp [h, h', d]) | (refine CallQ_plain ?_; simp [h, h', d]) | (refine wRet ?_; try simp) | (refine wCond ?_; simp [h, h', d]) | (refine wBlock ?_) | (refine wScope ?_) | (refine wLabel ?_; try simp only [thenA_n]) | (refine wExit ?_; try simp) | (refine wSkip ?_; try simp) | (refine wOn ?_; try simp only [thenA_n]) | (refine wQn ?_; try simp only [thenA_n])
      all_goals apply hr
      all_goals simp [Tryd.f48, d]
  · have h' : ¬ (q.length : Int) ≤ p.length := by omega
    have h'' : p.length < q.length := by omega
    rw [show decide (q.length ≤ p.length ∧ p.take q.length = q) = false by simp [h]]
    refine wBody Tryd.tab Tryd.mixed Tryd.func48 rfl rfl Tryd.ntmps48 (by simp) (by simp) fun Q hr hn => ?_
    repeat' first | (refine hK _ ?_; clear hK) | (refine hK _ _ ?_; clear hK) | (clear hK; refine hK _ ?_; clear hK) | (clear hK; clear hK; refine hK _ ?_; clear hK) | (clear hK; clear hK; clear hK; refine hK _ ?_; clear hK) | (clear hK; clear hK; clear hK; clear hK; refine hK _ ?_; clear hK) | (refine wSeq fun K hK => ?_) | (refine wReg ?_; simp only [List.map_cons, List.map_nil, strip]) | (refine wDrwQ rfl (by kernel_rfl) ?_; simp only [List.map_cons, List.map_nil, strip]) | (refine wDrwI ?_; simp only [List.map_cons, List.map_nil, strip]) | (refine wDrw (by kernel_rfl) ?_; simp only [List.map_cons, List.map_nil, strip]) | (refine wIs fun K hK => ?_; simp [h, h', h'']) | (refine wIn ?_; refine And.intro (by kernel_rfl) ?_; try simp only [thenA_n]) | (refine wOs fun K hK => ?_; simp [h, h', h'']) | (refine wQs fun K hK => ?_; simp [h, h', h'']) | (refine CallK_plain ?_; simp [h, h', h'']) | (refine CallQ_plain ?_; simp [h, h', h'']) | (refine wRet ?_; try simp) | (refine wCond ?_; simp [h, h', h'']) | (refine wBlock ?_) | (refine wScope ?_) | (refine wLabel ?_; try simp only [thenA_n]) | (refine wExit ?_; try simp) | (refine wSkip ?_; try simp) | (refine wOn ?_; try simp only [thenA_n]) | (refine wQn ?_; try simp only [thenA_n])
    all_goals apply hr
    all_goals simp [Tryd.f48]
theorem hasPrefix_con (p q : List UInt8) : ACon Tryd.prog 34 [.p (SB p), .p (SB q)] (.p (B (hpx p q))) := by
  have c := hasPrefixL_con p q
  refine wBody Tryd.tab Tryd.mixed Tryd.func34 rfl rfl Tryd.ntmps34 (by simp) (by simp) fun Q hr hn => ?_
  repeat' first | (refine hK _ ?_; clear hK) | (refine hK _ _ ?_; clear hK) | (clear hK; refine hK _ ?_; clear hK) | (clear hK; clear hK; refine hK _ ?_; clear hK) | (clear hK; clear hK; clear hK; refine hK _ ?_; clear hK) | (clear hK; clear hK; clear hK; clear hK; refine hK _ ?_; clear hK) | (refine wSeq fun K hK => ?_) | (refine wReg ?_; simp only [List.map_cons, List.map_nil, strip]) | (refine wDrwQ rfl (by kernel_rfl) ?_; simp only [List.map_cons, List.map_nil, strip]) | (refine wDrwI ?_; simp only [List.map_cons, List.map_nil, strip]) | (refine wDrw (by kernel_rfl) ?_; simp only [List.map_cons, List.map_nil, strip]) | (refine wIs fun K hK => ?_; simp) | (refine wIn ?_; refine And.intro (by kernel_rfl) ?_; try simp only [thenA_n]) | (refine wOs fun K hK => ?_; simp) | (refine wQs fun K hK => ?_; simp) | (refine CallK_plain ?_; simp) | (refine CallQ_plain ?_; simp) | (refine wRet ?_; try simp) | (refine wCond ?_; simp) | (refine wBlock ?_) | (refine wScope ?_) | (refine wLabel ?_; try simp only [thenA_n]) | (refine wExit ?_; try simp) | (refine wSkip ?_; try simp) | (refine wOn ?_; try simp only [thenA_n]) | (refine wQn ?_; try simp only [thenA_n]) | (refine CallE.pure (c) rfl ?_) | (refine CallE.lent (c) rfl ?_) | (refine CallF.pure (c) rfl ?_) | (refine CallF.lent (c) rfl ?_) | (refine CallE.own (c) ?_)
  all_goals apply hr
  all_goals simp [Tryd.f34]
theorem Below_con (p q : List UInt8) (hp : p.length ≤ 9223372036854775807) (hq : q.length ≤ 9223372036854775807) : ACon Tryd.prog 22 [.p (SB p), .p (SB q)] (.p (B (blw p q))) := by
  have c1 := check_con p hp
  have c2 := check_con q hq
  unfold blw
  by_cases h1 : chk p = 0
  · rw [h1] at c1
    by_cases h2 : chk q = 0
    · have c3 := below_con q (by have := chk_len h2; omega)
      have c4 := hasPrefix_con p (bel q)
      rw [h2] at c2
      by_cases h3 : p = q
      · rw [show (decide (chk p = 0 ∧ chk q = 0 ∧ p ≠ q) && hpx p (bel q)) = false by simp [h3]]
        subst h3
        refine wBody Tryd.tab Tryd.mixed Tryd.func22 rfl rfl Tryd.ntmps22 (by simp) (by simp) fun Q hr hn => ?_
        repeat' first | (refine hK _ ?_; clear hK) | (refine hK _ _ ?_; clear hK) | (clear hK; refine hK _ ?_; clear hK) | (clear hK; clear hK; refine hK _ ?_; clear hK) | (clear hK; clear hK; clear hK; refine hK _ ?_; clear hK) | (clear hK; clear hK; clear hK; clear hK; refine hK _ ?_; clear hK) | (refine wSeq fun K hK => ?_) | (refine wReg ?_; simp only [List.map_cons, List.map_nil, strip]) | (refine wDrwQ rfl (by kernel_rfl) ?_; simp only [List.map_cons, List.map_nil, strip]) | (refine wDrwI ?_; simp only [List.map_cons, List.map_nil, strip]) | (refine wDrw (by kernel_rfl) ?_; simp only [List.map_cons, List.map_nil, strip]) | (refine wIs fun K hK => ?_; simp) | (refine wIn ?_; refine And.intro (by kernel_rfl) ?_; try simp only [thenA_n]) | (refine wOs fun K hK => ?_; simp) | (refine wQs fun K hK => ?_; simp) | (refine CallK_plain ?_; simp) | (refine CallQ_plain ?_; simp) | (refine wRet ?_; try simp) | (refine wCond ?_; simp) | (refine wBlock ?_) | (refine wScope ?_) | (refine wLabel ?_; try simp only [thenA_n]) | (refine wExit ?_; try simp) | (refine wSkip ?_; try simp) | (refine wOn ?_; try simp only [thenA_n]) | (refine wQn ?_; try simp only [thenA_n]) | (refine CallE.pure (c1) rfl ?_) | (refine CallE.lent (c1) rfl ?_) | (refine CallF.pure (c1) rfl ?_) | (refine CallF.lent (c1) rfl ?_) | (refine CallE.own (c1) ?_)
        all_goals apply hr
        all_goals simp [Tryd.f22]
      · rw [show (decide (chk p = 0 ∧ chk q = 0 ∧ p ≠ q) && hpx p (bel q)) = hpx p (bel q) by simp [h1, h2, h3]]
        generalize bel q = t at c3 c4
        refine wBody Tryd.tab Tryd.mixed Tryd.func22 rfl rfl Tryd.ntmps22 (by simp) (by simp) fun Q hr hn => ?_
        repeat' first | (refine hK _ ?_; clear hK) | (refine hK _ _ ?_; clear hK) | (clear hK; refine hK _ ?_; clear hK) | (clear hK; clear hK; refine hK _ ?_; clear hK) | (clear hK; clear hK; clear hK; refine hK _ ?_; clear hK) | (clear hK; clear hK; clear hK; clear hK; refine hK _ ?_; clear hK) | (refine wSeq fun K hK => ?_) | (refine wReg ?_; simp only [List.map_cons, List.map_nil, strip]) | (refine wDrwQ rfl (by kernel_rfl) ?_; simp only [List.map_cons, List.map_nil, strip]) | (refine wDrwI ?_; simp only [List.map_cons, List.map_nil, strip]) | (refine wDrw (by kernel_rfl) ?_; simp only [List.map_cons, List.map_nil, strip]) | (refine wIs fun K hK => ?_; simp [h3]) | (refine wIn ?_; refine And.intro (by kernel_rfl) ?_; try simp only [thenA_n]) | (refine wOs fun K hK => ?_; simp [h3]) | (refine wQs fun K hK => ?_; simp [h3]) | (refine CallK_plain ?_; simp [h3]) | (refine CallQ_plain ?_; simp [h3]) | (refine wRet ?_; try simp) | (refine wCond ?_; simp [h3]) | (refine wBlock ?_) | (refine wScope ?_) | (refine wLabel ?_; try simp only [thenA_n]) | (refine wExit ?_; try simp) | (refine wSkip ?_; try simp) | (refine wOn ?_; try simp only [thenA_n]) | (refine wQn ?_; try simp only [thenA_n]) | (refine CallE.pure (c1) rfl ?_) | (refine CallE.lent (c1) rfl ?_) | (refine CallF.pure (c1) rfl ?_) | (refine CallF.lent (c1) rfl ?_) | (refine CallE.own (c1) ?_) | (refine CallE.pure (c2) rfl ?_) | (refine CallE.lent (c2) rfl ?_) | (refine CallF.pure (c2) rfl ?_) | (refine CallF.lent (c2) rfl ?_) | (refine CallE.own (c2) ?_) | (refine CallE.pure (c3) rfl ?_) | (refine CallE.lent (c3) rfl ?_) | (refine CallF.pure (c3) rfl ?_) | (refine CallF.lent (c3) rfl ?_) | (refine CallE.own (c3) ?_) | (refine CallE.pure (c4) rfl ?_) | (refine CallE.lent (c4) rfl ?_) | (refine CallF.pure (c4) rfl ?_) | (refine CallF.lent (c4) rfl ?_) | (refine CallE.own (c4) ?_)
        all_goals apply hr
        all_goals simp [Tryd.f22]
    · rw [show (decide (chk p = 0 ∧ chk q = 0 ∧ p ≠ q) && hpx p (bel q)) = false by simp [h2]]
      generalize chk q = e at c2 h2
      refine wBody Tryd.tab Tryd.mixed Tryd.func22 rfl rfl Tryd.ntmps22 (by simp) (by simp) fun Q hr hn => ?_
      repeat' first | (refine hK _ ?_; clear hK) | (refine hK _ _ ?_; clear hK) | (clear hK; refine hK _ ?_; clear hK) | (clear hK; clear hK; refine hK _ ?_; clear hK) | (clear hK; clear hK; clear hK; refine hK _ ?_; clear hK) | (clear hK; clear hK; clear hK; clear hK; refine hK _ ?_; clear hK) | (refine wSeq fun K hK => ?_) | (refine wReg ?_; simp only [List.map_cons, List.map_nil, strip]) | (refine wDrwQ rfl (by kernel_rfl) ?_; simp only [List.map_cons, List.map_nil, strip]) | (refine wDrwI ?_; simp only [List.map_cons, List.map_nil, strip]) | (refine wDrw (by kernel_rfl) ?_; simp only [List.map_cons, List.map_nil, strip]) | (refine wIs fun K hK => ?_; simp [h2]) | (refine wIn ?_; refine And.intro (by kernel_rfl) ?_; try simp only [thenA_n]) | (refine wOs fun K hK => ?_; simp [h2]) | (refine wQs fun K hK => ?_; simp [h2]) | (refine CallK_plain ?_; simp [h2]) | (refine CallQ_plain ?_; simp [h2]) | (refine wRet ?_; try simp) | (refine wCond ?_; simp [h2]) | (refine wBlock ?_) | (refine wScope ?_) | (refine wLabel ?_; try simp only [thenA_n]) | (refine wExit ?_; try simp) | (refine wSkip ?_; try simp) | (refine wOn ?_; try simp only [thenA_n]) | (refine wQn ?_; try simp only [thenA_n]) | (refine CallE.pure (c1) rfl ?_) | (refine CallE.lent (c1) rfl ?_) | (refine CallF.pure (c1) rfl ?_) | (refine CallF.lent (c1) rfl ?_) | (refine CallE.own (c1) ?_) | (refine CallE.pure (c2) rfl ?_) | (refine CallE.lent (c2) rfl ?_) | (refine CallF.pure (c2) rfl ?_) | (refine CallF.lent (c2) rfl ?_) | (refine CallE.own (c2) ?_)
      all_goals apply hr
      all_goals simp [Tryd.f22]
  · rw [show (decide (chk p = 0 ∧ chk q = 0 ∧ p ≠ q) && hpx p (bel q)) = false by simp [h1]]
    generalize chk p = e at c1 h1
    refine wBody Tryd.tab Tryd.mixed Tryd.func22 rfl rfl Tryd.ntmps22 (by simp) (by simp) fun Q hr hn => ?_
    repeat' first | (refine hK _ ?_; clear hK) | (refine hK _ _ ?_; clear hK) | (clear hK; refine hK _ ?_; clear hK) | (clear hK; clear hK; refine hK _ ?_; clear hK) | (clear hK; clear hK; clear hK; refine hK _ ?_; clear hK) | (clear hK; clear hK; clear hK; clear hK; refine hK _ ?_; clear hK) | (refine wSeq fun K hK => ?_) | (refine wReg ?_; simp only [List.map_cons, List.map_nil, strip]) | (refine wDrwQ rfl (by kernel_rfl) ?_; simp only [List.map_cons, List.map_nil, strip]) | (refine wDrwI ?_; simp only [List.map_cons, List.map_nil, strip]) | (refine wDrw (by kernel_rfl) ?_; simp only [List.map_cons, List.map_nil, strip]) | (refine wIs fun K hK => ?_; simp [h1]) | (refine wIn ?_; refine And.intro (by kernel_rfl) ?_; try simp only [thenA_n]) | (refine wOs fun K hK => ?_; simp [h1]) | (refine wQs fun K hK => ?_; simp [h1]) | (refine CallK_plain ?_; simp [h1]) | (refine CallQ_plain ?_; simp [h1]) | (refine wRet ?_; try simp) | (refine wCond ?_; simp [h1]) | (refine wBlock ?_) | (refine wScope ?_) | (refine wLabel ?_; try simp only [thenA_n]) | (refine wExit ?_; try simp) | (refine wSkip ?_; try simp) | (refine wOn ?_; try simp only [thenA_n]) | (refine wQn ?_; try simp only [thenA_n]) | (refine CallE.pure (c1) rfl ?_) | (refine CallE.lent (c1) rfl ?_) | (refine CallF.pure (c1) rfl ?_) | (refine CallF.lent (c1) rfl ?_) | (refine CallE.own (c1) ?_)
    all_goals apply hr
    all_goals simp [Tryd.f22]
end Go.Proofs.YtpbmicfbghnmeaaDoor
