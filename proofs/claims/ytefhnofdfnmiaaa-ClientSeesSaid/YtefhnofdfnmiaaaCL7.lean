/- Clients: a client is the same as itself; what an event comes to. -/
import Derived.Test.YtefhnofdfnmiaaaCL6
namespace Go.Proofs.Ytefhnofdfnmiaaa
set_option linter.unusedSimpArgs false
set_option linter.unusedVariables false
set_option maxRecDepth 8000
open Go Go.Av
attribute [local simp] Try.T1 Try.T2 Try.T3 Try.T4 Try.T5 Try.T9 Try.T12 Try.T15 Try.T16 Try.T17 Try.T21 Try.T22 Try.T23 Try.T24 Try.T26 Try.T27 Try.T29 Try.T30 Try.T32 Try.T33 Try.T34 Try.T35 Try.T36 Try.T38 Try.T40 Try.T42 Try.T43 Try.T45 Try.T47 Try.T49 Try.T50 Try.T51 Try.T53 Try.T54 Try.T55 Try.T56 Try.T57 Try.T59 Try.T61 Try.T63 Try.T65 Try.T66 Try.T67 Try.T69 Try.T70 Try.T71 Try.T72 Try.T73 Try.T74 Try.T75 Try.T76 Try.T78 Try.T79 Try.T80 Try.T81 Try.T82 Try.T83 Try.T84 Try.T85 Try.T86 Try.T87 Try.T88 Try.T89 Try.T90 Try.T91 Try.T92 Try.T93 Try.T94 Try.T95 Try.T96 Try.T97 Try.T98 Try.T99 Try.T101 Try.T102 Try.T103 Try.T104 Try.T105 Try.T106 Try.T107 Try.T108 Try.T109 Try.T112 Try.T115 Try.T116 Try.T119 Try.T120
attribute [local irreducible] Go.Av.CallK Go.Av.CallE Go.Av.CallQ Go.Av.CallF Go.Av.CallR Go.Av.CallH Go.Av.Con
theorem nts_get {l : List Nt} {k : Nat} (h : k < l.length) : (nts l)[k]? = some [I l[k].s, I l[k].k, SB l[k].p, I l[k].w, I l[k].e, I l[k].n] := by simp [nts, h, Nt.cells]
@[simp] theorem nts_getElem (l : List Nt) (k : Nat) (h : k < (nts l).length) : (nts l)[k] = [I (l[k]'(by simpa using h)).s, I (l[k]'(by simpa using h)).k, SB (l[k]'(by simpa using h)).p, I (l[k]'(by simpa using h)).w, I (l[k]'(by simpa using h)).e, I (l[k]'(by simpa using h)).n] := by simp [nts, Nt.cells]
set_option maxHeartbeats 2000000 in
theorem same26_con (c : Cl) (hn : c.nt.length ≤ 1000000) : ACon Try.prog 9 [.p (.agg c.cells), .p (.agg c.cells)] (.p (B true)) := by
  obtain ⟨i0, i1, i2, i3, i4, i5, i6, i7, i8, nt⟩ := c
  unfold Cl.cells
  dsimp only at hn ⊢
  refine wBody Try.tab Try.mixed Try.func9 rfl rfl Try.ntmps9 (by simp) (by simp) fun Q hr hn => ?_
  repeat' first | (refine hK _ ?_; clear hK) | (refine hK _ _ ?_; clear hK) | (clear hK; refine hK _ ?_; clear hK) | (clear hK; clear hK; refine hK _ ?_; clear hK) | (clear hK; clear hK; clear hK; refine hK _ ?_; clear hK) | (clear hK; clear hK; clear hK; clear hK; refine hK _ ?_; clear hK) | (refine wSeq fun K hK => ?_) | ((first | refine wReg ?_ | refine wDrwQ rfl (by kernel_rfl) ?_ | refine wDrwI ?_ | refine wDrw (by kernel_rfl) ?_); simp only [List.map_cons, List.map_nil, strip]) | ((first | refine wIs fun K hK => ?_ | refine wOs fun K hK => ?_ | refine wQs fun K hK => ?_ | refine CallK_plain ?_ | refine CallQ_plain ?_ | refine CallR_plain ?_ | refine wCond ?_); simp) | (refine wIn ?_; refine And.intro (by kernel_rfl) ?_; try simp only [thenA_n]) | (first | refine wBlock ?_ | refine wScope ?_) | ((first | refine wRet ?_ | refine wExit ?_ | refine wSkip ?_); try simp) | ((first | refine wLabel ?_ | refine wOn ?_ | refine wQn ?_); try simp only [thenA_n])
  refine wLoop (fun N st => ∃ k, k + N = nt.length ∧ st.s 2 = .ptr 2 0 ∧ st.b 2 = some (.box 29 [.p (I i0), .p (I i1), .p (I i2), .p (I i3), .p (I i4), .p (I i5), .p (I i6), .p (I i7), .p (I i8), .p (.sl 6 (nts nt))]) ∧ st.s 3 = .ptr 3 0 ∧ st.b 3 = some (.box 29 [.p (I i0), .p (I i1), .p (I i2), .p (I i3), .p (I i4), .p (I i5), .p (I i6), .p (I i7), .p (I i8), .p (.sl 6 (nts nt))]) ∧ st.s 71 = .p (I nt.length) ∧ st.s 72 = .p (I k)) nt.length ⟨0, by simp⟩ fun K N st hL ⟨k, hk, g2, b2, g3, b3, g71, g72⟩ => ?_
  by_cases hlt : k < nt.length
  · have hlt' : (k : Int) < nt.length := by omega
    have hw := wrapS k _ hlt (by omega)
    have he := nts_get hlt
    repeat' first | (refine hK _ ?_; clear hK) | (refine hK _ _ ?_; clear hK) | (clear hK; refine hK _ ?_; clear hK) | (clear hK; clear hK; refine hK _ ?_; clear hK) | (clear hK; clear hK; clear hK; refine hK _ ?_; clear hK) | (clear hK; clear hK; clear hK; clear hK; refine hK _ ?_; clear hK) | (refine wSeq fun K hK => ?_) | ((first | refine wReg ?_ | refine wDrwQ rfl (by kernel_rfl) ?_ | refine wDrwI ?_ | refine wDrw (by kernel_rfl) ?_); simp only [List.map_cons, List.map_nil, strip]) | ((first | refine wIs fun K hK => ?_ | refine wOs fun K hK => ?_ | refine wQs fun K hK => ?_ | refine CallK_plain ?_ | refine CallQ_plain ?_ | refine CallR_plain ?_ | refine wCond ?_); simp [g2, b2, g3, b3, g71, g72, hlt, hlt', hw, he]) | (refine wIn ?_; refine And.intro (by kernel_rfl) ?_; try simp only [thenA_n]) | (first | refine wBlock ?_ | refine wScope ?_) | ((first | refine wRet ?_ | refine wExit ?_ | refine wSkip ?_); try simp) | ((first | refine wLabel ?_ | refine wOn ?_ | refine wQn ?_); try simp only [thenA_n])
    all_goals refine hL _ (N - 1) (by omega) ⟨k + 1, by omega, ?_⟩
    all_goals simp [g2, b2, g3, b3, g71, g72, hw]
  · have hlt' : ¬ (k : Int) < nt.length := by omega
    repeat' first | (refine hK _ ?_; clear hK) | (refine hK _ _ ?_; clear hK) | (clear hK; refine hK _ ?_; clear hK) | (clear hK; clear hK; refine hK _ ?_; clear hK) | (clear hK; clear hK; clear hK; refine hK _ ?_; clear hK) | (clear hK; clear hK; clear hK; clear hK; refine hK _ ?_; clear hK) | (refine wSeq fun K hK => ?_) | ((first | refine wReg ?_ | refine wDrwQ rfl (by kernel_rfl) ?_ | refine wDrwI ?_ | refine wDrw (by kernel_rfl) ?_); simp only [List.map_cons, List.map_nil, strip]) | ((first | refine wIs fun K hK => ?_ | refine wOs fun K hK => ?_ | refine wQs fun K hK => ?_ | refine CallK_plain ?_ | refine CallQ_plain ?_ | refine CallR_plain ?_ | refine wCond ?_); simp [g2, b2, g3, b3, g71, g72, hlt, hlt']) | (refine wIn ?_; refine And.intro (by kernel_rfl) ?_; try simp only [thenA_n]) | (first | refine wBlock ?_ | refine wScope ?_) | ((first | refine wRet ?_ | refine wExit ?_ | refine wSkip ?_); try simp) | ((first | refine wLabel ?_ | refine wOn ?_ | refine wQn ?_); try simp only [thenA_n])
    all_goals apply hr
    all_goals simp [Try.f9]
/-! ### What an event comes to -/
theorem zcmp_self (a b : Int) : zcmp a b a b = 0 := by rw [zcmp_spec]; simp
theorem seeC_f (c : Cl) (e n : Int) : (seeC c e n).xi = c.xi ∧ (seeC c e n).wt = c.wt ∧ (seeC c e n).nt = c.nt ∧ ¬ zcmp (seeC c e n).se (seeC c e n).sn c.se c.sn < 0 := by
  unfold seeC
  split
  · exact ⟨rfl, rfl, rfl, by simp only; omega⟩
  · exact ⟨rfl, rfl, rfl, by rw [zcmp_self]; omega⟩
/-- What the law asks of an event. -/
structure Sees (c : Cl) (e : Ev6) (a : AR6) : Prop where
  z : ¬ zcmp a.d.se a.d.sn c.se c.sn < 0
  x : c.xi ≤ a.d.xi ∧ a.d.xi ≤ c.xi + 1
  n : a.d.nt.length ≤ c.nt.length + 1
  r : (a.rs = [] ∧ (a.d.wt = c.wt ∨ a.d.wt = 0 ∨ (c.wt = 0 ∧ (e.k = 1 ∨ e.k = 2) ∧ a.e = 0))) ∨ (∃ u w, a.rs = [rsC c.id c.wt u w] ∧ ¬ c.wt = 0 ∧ a.d.wt = 0)
  w : a.ws.length ≤ 1
  o : (e.k = 1 ∨ e.k = 2) → a.e = 0 → c.wt = 0 ∧ a.d.wt = c.xi + 1 ∧ a.d.xi = c.xi + 1 ∧ a.ws.length = 1 ∧ a.rs = []
  b : (e.k = 1 ∨ e.k = 2) → a.e ≠ 0 → a.d = c ∧ a.rs = []
theorem wait_f (c : Cl) (k : Int) : (waitE c = 0 → c.wt = 0 ∧ (waitC c k).wt = c.xi + 1 ∧ (waitC c k).xi = c.xi + 1 ∧ (waitC c k).nt = c.nt ∧ (waitC c k).se = c.se ∧ (waitC c k).sn = c.sn) ∧ (waitE c ≠ 0 → waitC c k = c) := by
  refine ⟨fun h => ?_, fun h => ?_⟩
  · unfold waitC; rw [if_pos h]
    unfold waitE at h
    split at h
    · split at h
      · rename_i h2; exact ⟨h2, rfl, rfl, rfl, rfl, rfl⟩
      · simp at h
    · simp at h
  · unfold waitC; rw [if_neg h]
theorem rsE_f (c d : Cl) (hd : d.wt = 0) : (rsE c = [] ∧ (d.wt = c.wt ∨ d.wt = 0)) ∨ (∃ u w, rsE c = [rsC c.id c.wt u w] ∧ ¬ c.wt = 0 ∧ d.wt = 0) := by
  unfold rsE
  by_cases h : c.wt = 0
  · rw [if_pos h]; exact .inl ⟨rfl, .inr hd⟩
  · rw [if_neg h]; exact .inr ⟨true, _, rfl, h, hd⟩
theorem actM_sees (c : Cl) (e : Ev6) : Sees c e (actM c e) := by
  unfold actM
  by_cases h0 : e.k = 0
  · rw [if_pos h0]
    refine ⟨by show ¬ zcmp c.se c.sn c.se c.sn < 0; rw [zcmp_self]; omega, ⟨by show c.xi ≤ c.xi + 1; omega, by show c.xi + 1 ≤ c.xi + 1; omega⟩, by show c.nt.length ≤ _; omega, ?_, by simp, fun h => by omega, fun h => by omega⟩
    rcases rsE_f c (conC c e.n) rfl with ⟨h1, h2⟩ | h
    · exact .inl ⟨h1, h2.elim .inl fun h => .inr (.inl h)⟩
    · exact .inr h
  rw [if_neg h0]
  by_cases h1 : e.k = 1
  · rw [if_pos h1]
    have f := wait_f c 0
    by_cases hw : waitE c = 0
    · obtain ⟨f1, f2, f3, f4, f5, f6⟩ := f.1 hw
      refine ⟨by show ¬ zcmp (waitC c 0).se (waitC c 0).sn c.se c.sn < 0; rw [f5, f6, zcmp_self]; omega, ⟨by show c.xi ≤ (waitC c 0).xi; omega, by show (waitC c 0).xi ≤ _; omega⟩, by show (waitC c 0).nt.length ≤ _; rw [f4]; omega, .inl ⟨rfl, .inr (.inr ⟨f1, .inl h1, hw⟩)⟩, ?_, fun _ _ => ⟨f1, f2, f3, ?_, rfl⟩, fun _ h => absurd hw h⟩
      · show (askL c e.r).length ≤ 1; unfold askL; rw [if_pos hw]; simp
      · show (askL c e.r).length = 1; unfold askL; rw [if_pos hw]; simp
    · have f1 := f.2 hw
      rw [f1]
      refine ⟨by show ¬ zcmp c.se c.sn c.se c.sn < 0; rw [zcmp_self]; omega, ⟨by show c.xi ≤ c.xi; omega, by show c.xi ≤ _; omega⟩, by show c.nt.length ≤ _; omega, .inl ⟨rfl, .inl rfl⟩, ?_, fun _ h => absurd h hw, fun _ _ => ⟨rfl, rfl⟩⟩
      show (askL c e.r).length ≤ 1; unfold askL; rw [if_neg hw]; simp
  rw [if_neg h1]
  by_cases h2 : e.k = 2
  · rw [if_pos h2]
    have f := wait_f c e.n
    by_cases hk : e.n = 1 ∨ e.n = 2
    · have eE : rdE c e.n = waitE c := by unfold rdE; rw [if_pos hk]
      have eC : rdC c e.n = waitC c e.n := by unfold rdC; rw [if_pos hk]
      have eL : rdL c e.n e.w.pa e.w.wa = if waitE c = 0 then [(readW c e.n e.w.pa e.w.wa).cells] else [] := by unfold rdL; rw [eE]
      rw [eE, eC, eL]
      by_cases hw : waitE c = 0
      · obtain ⟨f1, f2, f3, f4, f5, f6⟩ := f.1 hw
        rw [if_pos hw]
        exact ⟨by show ¬ zcmp (waitC c e.n).se (waitC c e.n).sn c.se c.sn < 0; rw [f5, f6, zcmp_self]; omega, ⟨by show c.xi ≤ (waitC c e.n).xi; omega, by show (waitC c e.n).xi ≤ _; omega⟩, by show (waitC c e.n).nt.length ≤ _; rw [f4]; omega, .inl ⟨rfl, .inr (.inr ⟨f1, .inr h2, hw⟩)⟩, by simp, fun _ _ => ⟨f1, f2, f3, by simp, rfl⟩, fun _ h => absurd hw h⟩
      · rw [f.2 hw, if_neg hw]
        exact ⟨by show ¬ zcmp c.se c.sn c.se c.sn < 0; rw [zcmp_self]; omega, ⟨by show c.xi ≤ c.xi; omega, by show c.xi ≤ _; omega⟩, by show c.nt.length ≤ _; omega, .inl ⟨rfl, .inl rfl⟩, by simp, fun _ h => absurd h hw, fun _ _ => ⟨rfl, rfl⟩⟩
    · have eE : rdE c e.n = 1 := by unfold rdE; rw [if_neg hk]
      have eC : rdC c e.n = c := by unfold rdC; rw [if_neg hk]
      have eL : rdL c e.n e.w.pa e.w.wa = [] := by unfold rdL; rw [eE]; rfl
      rw [eE, eC, eL]
      exact ⟨by show ¬ zcmp c.se c.sn c.se c.sn < 0; rw [zcmp_self]; omega, ⟨by show c.xi ≤ c.xi; omega, by show c.xi ≤ _; omega⟩, by show c.nt.length ≤ _; omega, .inl ⟨rfl, .inl rfl⟩, by simp, fun _ h => by simp at h, fun _ _ => ⟨rfl, rfl⟩⟩
  rw [if_neg h2]
  have no : ∀ d : AR6, (e.k = 1 ∨ e.k = 2) → False := fun _ h => by omega
  have same : ∀ ws : List (List PV), ws.length ≤ 1 → Sees c e ⟨c, ws, [], 0⟩ := fun ws hws => ⟨by show ¬ zcmp c.se c.sn c.se c.sn < 0; rw [zcmp_self]; omega, ⟨by show c.xi ≤ c.xi; omega, by show c.xi ≤ _; omega⟩, by show c.nt.length ≤ _; omega, .inl ⟨rfl, .inl rfl⟩, hws, fun h => by omega, fun h => by omega⟩
  by_cases h3 : e.k = 3
  · rw [if_pos h3]
    unfold hearC
    split
    · split
      · unfold openC
        split
        · have f := seeC_f { c with ph := 2, ss := e.w.ss } e.w.ae e.w.an
          exact ⟨f.2.2.2, ⟨by show c.xi ≤ (seeC _ _ _).xi; rw [f.1]; exact Int.le_refl _, by show (seeC _ _ _).xi ≤ _; rw [f.1]; show c.xi ≤ _; omega⟩, by show (seeC _ _ _).nt.length ≤ _; rw [f.2.2.1]; exact Nat.le_succ _, .inl ⟨rfl, .inl f.2.1⟩, by simp, fun h => by omega, fun h => by omega⟩
        · exact same [] (by simp)
      split
      · have e1 : (noC c e.w).se = c.se ∧ (noC c e.w).sn = c.sn ∧ (noC c e.w).xi = c.xi ∧ (noC c e.w).nt = c.nt := by unfold noC; split <;> exact ⟨rfl, rfl, rfl, rfl⟩
        refine ⟨by show ¬ zcmp (noC c e.w).se (noC c e.w).sn c.se c.sn < 0; rw [e1.1, e1.2.1, zcmp_self]; omega, ⟨by show c.xi ≤ (noC c e.w).xi; omega, by show (noC c e.w).xi ≤ _; omega⟩, by show (noC c e.w).nt.length ≤ _; rw [e1.2.2.2]; omega, ?_, by simp, fun h => by omega, fun h => by omega⟩
        rcases rsE_f c (endC (noC c e.w)) rfl with ⟨h1, h2⟩ | h
        · exact .inl ⟨h1, h2.elim .inl fun h => .inr (.inl h)⟩
        · exact .inr h
      split
      · have f := seeC_f { c with nt := c.nt ++ [e.w.nt] } e.w.nt.e e.w.nt.n
        exact ⟨f.2.2.2, ⟨by show c.xi ≤ (seeC _ _ _).xi; rw [f.1]; exact Int.le_refl _, by show (seeC _ _ _).xi ≤ _; rw [f.1]; show c.xi ≤ _; omega⟩, by show (seeC _ _ _).nt.length ≤ _; rw [f.2.2.1]; simp, .inl ⟨rfl, .inl f.2.1⟩, by simp, fun h => by omega, fun h => by omega⟩
      split
      · split
        · rename_i hg
          have f := seeC_f c e.w.ae e.w.an
          exact ⟨f.2.2.2, ⟨by show c.xi ≤ (seeC _ _ _).xi; rw [f.1]; exact Int.le_refl _, by show (seeC _ _ _).xi ≤ _; rw [f.1]; omega⟩, by show (seeC _ _ _).nt.length ≤ _; rw [f.2.2.1]; omega, .inr ⟨false, e.w, rfl, hg.1, rfl⟩, by simp, fun h => by omega, fun h => by omega⟩
        · exact same [] (by simp)
      · exact same [] (by simp)
    · exact same [] (by simp)
  rw [if_neg h3]
  by_cases h4 : e.k = 4
  · rw [if_pos h4]
    refine ⟨by show ¬ zcmp c.se c.sn c.se c.sn < 0; rw [zcmp_self]; omega, ⟨by show c.xi ≤ c.xi; omega, by show c.xi ≤ _; omega⟩, by show c.nt.length ≤ _; omega, ?_, by simp, fun h => by omega, fun h => by omega⟩
    rcases rsE_f c (lostC c) rfl with ⟨h1, h2⟩ | h
    · exact .inl ⟨h1, h2.elim .inl fun h => .inr (.inl h)⟩
    · exact .inr h
  rw [if_neg h4]
  refine same _ ?_
  unfold beatL; split <;> simp
end Go.Proofs.Ytefhnofdfnmiaaa
