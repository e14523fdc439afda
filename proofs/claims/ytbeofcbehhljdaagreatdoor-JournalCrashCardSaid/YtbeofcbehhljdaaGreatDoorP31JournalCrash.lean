/- Texts that the proof needs: JN5 DK8 JN6 RGC JN7 RGA JN8. -/
import Derived.Test.YtbeofcbehhljdaaGreatDoorP30JournalCrash
import Derived.Test.YtbeofcbehhljdaaGreatDoorP26JournalCrash
import Derived.Test.YtbeofcbehhljdaaGreatDoorP27JournalCrash
import Derived.Test.YtbeofcbehhljdaaGreatDoorP25JournalCrash
import Derived.Test.YtbeofcbehhljdaaGreatDoorP29JournalCrash
import Derived.Test.YtbeofcbehhljdaaGreatDoorP23JournalCrash
namespace Go.Proofs.YtbeofcbehhljdaaGreatDoor
set_option linter.unusedSimpArgs false
set_option linter.unusedVariables false
set_option maxRecDepth 8000
open Go Go.Av
attribute [local irreducible] Go.Av.CallK Go.Av.CallE Go.Av.CallQ Go.Av.CallF Go.Av.CallR Go.Av.CallH Go.Av.Con
def addM (d : Dk) (g : Int) (rows : List (List PV)) : Dk × Int :=
 if rows.length = 0 then (d, 0)
 else if (app d (lgA g) (fsT rows)).2 = 0 then chg (app d (lgA g) (fsT rows)).1 (lgA g) synF (fun _ => 0) else app d (lgA g) (fsT rows)
theorem lgA_len (g : Int) : (lgA g).length = 5 := by unfold lgA; split <;> rfl
set_option maxHeartbeats 4000000 in
theorem add_con (d : Dk) (g : Int) (hg : g = 3 \/ g = 1) (rows : List (List PV)) (hk : OkK d) (hn' : d.fs.length <= 1000) (hu : usedL d.fs <= 1000000000) (hgd : ∀ r ∈ rows, GdT r) (hl : rows.length <= 1000000) (hs : (fsT rows).length <= 10000000) (hk2 : OkK (app d (lgA g) (fsT rows)).1) :
 ACon Tryz.prog 8 [.p (.agg d.cells), .p (I g), .p (.sl 8 rows)] (.tup [.p (.agg (addM d g rows).1.cells), .p (I (addM d g rows).2)]) := by
 have c1 := nameA_con hg
 have c2 := ownDisk_con d hn' (fun x hx => by have := hk.d x hx; omega)
 have c3 := framed_con rows hgd hl hs
 have c4 := append_con d (lgA g) (fsT rows) hk hu hs (by rw [lgA_len]; omega)
 have c5 := sync_con (app d (lgA g) (fsT rows)).1 (lgA g) hk2
 have hne := @lgA_ne g
 unfold addM
 generalize app d (lgA g) (fsT rows) = r at *
 generalize chg r.1 (lgA g) synF (fun _ => 0) = r2 at *
 generalize lgA g = nm at *
 generalize fsT rows = by' at *
 obtain ⟨d2, e⟩ := r
 obtain ⟨d3, e3⟩ := r2
 simp only at *
 unfold Dk.cells at *
 by_cases h0 : rows.length = 0
 ·rw [if_pos h0]
  have h0' : (rows.length : Int) = 0 := by omega
  obtain rfl := List.length_eq_zero_iff.1 h0
  refine wBody Tryz.tab Tryz.mixed Tryz.func8 rfl rfl Tryz.ntmps8 (by simp) (by simp) fun Q hr hn => ?_
  repeat' first | (refine hK _ ?_; clear hK) | (refine hK _ _ ?_; clear hK) | (clear hK; refine hK _ ?_; clear hK) | (clear hK; clear hK; refine hK _ ?_; clear hK) | (clear hK; clear hK; clear hK; refine hK _ ?_; clear hK) | (clear hK; clear hK; clear hK; clear hK; refine hK _ ?_; clear hK) | (refine wSeq fun K hK => ?_) | ((first | refine wReg ?_ | refine wDrwQ rfl (by kernel_rfl) ?_ | refine wDrwI ?_ | refine wDrw (by kernel_rfl) ?_); simp only [List.map_cons, List.map_nil, strip]) | ((first | refine wIs fun K hK => ?_ | refine wOs fun K hK => ?_ | refine wQs fun K hK => ?_ | refine CallK_plain ?_ | refine CallQ_plain ?_ | refine CallR_plain ?_ | refine wCond ?_); simp [hne, h0']) | (refine wIn ?_; refine And.intro (by kernel_rfl) ?_; try simp only [thenA_n]) | (first | refine wBlock ?_ | refine wScope ?_) | ((first | refine wRet ?_ | refine wExit ?_ | refine wSkip ?_); try simp) | ((first | refine wLabel ?_ | refine wOn ?_ | refine wQn ?_); try simp only [thenA_n]) | (refine CallE.pure (c1) rfl ?_) | (refine CallE.lent (c1) rfl ?_) | (refine CallF.pure (c1) rfl ?_) | (refine CallF.lent (c1) rfl ?_) | (refine CallE.own (c1) ?_) | (refine CallH.pure (c1) rfl ?_) | (refine CallH.lent (c1) rfl ?_) | (refine CallH.own (c1) ?_) | (refine CallE.pure (c2) rfl ?_) | (refine CallE.lent (c2) rfl ?_) | (refine CallF.pure (c2) rfl ?_) | (refine CallF.lent (c2) rfl ?_) | (refine CallE.own (c2) ?_) | (refine CallH.pure (c2) rfl ?_) | (refine CallH.lent (c2) rfl ?_) | (refine CallH.own (c2) ?_)
  all_goals apply hr
  all_goals simp [Tryz.f8]
 ·rw [if_neg h0]
  have h0' : ¬ (rows.length : Int) = 0 := by omega
  have h0r : ¬ rows = [] := fun h => h0 (by rw [h]; rfl)
  by_cases he : e = 0
  ·subst he
   rw [if_pos rfl]
   refine wBody Tryz.tab Tryz.mixed Tryz.func8 rfl rfl Tryz.ntmps8 (by simp) (by simp) fun Q hr hn => ?_
   repeat' first | (refine hK _ ?_; clear hK) | (refine hK _ _ ?_; clear hK) | (clear hK; refine hK _ ?_; clear hK) | (clear hK; clear hK; refine hK _ ?_; clear hK) | (clear hK; clear hK; clear hK; refine hK _ ?_; clear hK) | (clear hK; clear hK; clear hK; clear hK; refine hK _ ?_; clear hK) | (refine wSeq fun K hK => ?_) | ((first | refine wReg ?_ | refine wDrwQ rfl (by kernel_rfl) ?_ | refine wDrwI ?_ | refine wDrw (by kernel_rfl) ?_); simp only [List.map_cons, List.map_nil, strip]) | ((first | refine wIs fun K hK => ?_ | refine wOs fun K hK => ?_ | refine wQs fun K hK => ?_ | refine CallK_plain ?_ | refine CallQ_plain ?_ | refine CallR_plain ?_ | refine wCond ?_); simp [hne, h0, h0', h0r]) | (refine wIn ?_; refine And.intro (by kernel_rfl) ?_; try simp only [thenA_n]) | (first | refine wBlock ?_ | refine wScope ?_) | ((first | refine wRet ?_ | refine wExit ?_ | refine wSkip ?_); try simp) | ((first | refine wLabel ?_ | refine wOn ?_ | refine wQn ?_); try simp only [thenA_n]) | (refine CallE.pure (c1) rfl ?_) | (refine CallE.lent (c1) rfl ?_) | (refine CallF.pure (c1) rfl ?_) | (refine CallF.lent (c1) rfl ?_) | (refine CallE.own (c1) ?_) | (refine CallH.pure (c1) rfl ?_) | (refine CallH.lent (c1) rfl ?_) | (refine CallH.own (c1) ?_) | (refine CallE.pure (c3) rfl ?_) | (refine CallE.lent (c3) rfl ?_) | (refine CallF.pure (c3) rfl ?_) | (refine CallF.lent (c3) rfl ?_) | (refine CallE.own (c3) ?_) | (refine CallH.pure (c3) rfl ?_) | (refine CallH.lent (c3) rfl ?_) | (refine CallH.own (c3) ?_) | (refine CallE.pure (c4) rfl ?_) | (refine CallE.lent (c4) rfl ?_) | (refine CallF.pure (c4) rfl ?_) | (refine CallF.lent (c4) rfl ?_) | (refine CallE.own (c4) ?_) | (refine CallH.pure (c4) rfl ?_) | (refine CallH.lent (c4) rfl ?_) | (refine CallH.own (c4) ?_) | (refine CallE.pure (c5) rfl ?_) | (refine CallE.lent (c5) rfl ?_) | (refine CallF.pure (c5) rfl ?_) | (refine CallF.lent (c5) rfl ?_) | (refine CallE.own (c5) ?_) | (refine CallH.pure (c5) rfl ?_) | (refine CallH.lent (c5) rfl ?_) | (refine CallH.own (c5) ?_)
   all_goals apply hr
   all_goals simp [Tryz.f8]
  ·rw [if_neg he]
   refine wBody Tryz.tab Tryz.mixed Tryz.func8 rfl rfl Tryz.ntmps8 (by simp) (by simp) fun Q hr hn => ?_
   repeat' first | (refine hK _ ?_; clear hK) | (refine hK _ _ ?_; clear hK) | (clear hK; refine hK _ ?_; clear hK) | (clear hK; clear hK; refine hK _ ?_; clear hK) | (clear hK; clear hK; clear hK; refine hK _ ?_; clear hK) | (clear hK; clear hK; clear hK; clear hK; refine hK _ ?_; clear hK) | (refine wSeq fun K hK => ?_) | ((first | refine wReg ?_ | refine wDrwQ rfl (by kernel_rfl) ?_ | refine wDrwI ?_ | refine wDrw (by kernel_rfl) ?_); simp only [List.map_cons, List.map_nil, strip]) | ((first | refine wIs fun K hK => ?_ | refine wOs fun K hK => ?_ | refine wQs fun K hK => ?_ | refine CallK_plain ?_ | refine CallQ_plain ?_ | refine CallR_plain ?_ | refine wCond ?_); simp [hne, h0, h0', h0r, he]) | (refine wIn ?_; refine And.intro (by kernel_rfl) ?_; try simp only [thenA_n]) | (first | refine wBlock ?_ | refine wScope ?_) | ((first | refine wRet ?_ | refine wExit ?_ | refine wSkip ?_); try simp) | ((first | refine wLabel ?_ | refine wOn ?_ | refine wQn ?_); try simp only [thenA_n]) | (refine CallE.pure (c1) rfl ?_) | (refine CallE.lent (c1) rfl ?_) | (refine CallF.pure (c1) rfl ?_) | (refine CallF.lent (c1) rfl ?_) | (refine CallE.own (c1) ?_) | (refine CallH.pure (c1) rfl ?_) | (refine CallH.lent (c1) rfl ?_) | (refine CallH.own (c1) ?_) | (refine CallE.pure (c3) rfl ?_) | (refine CallE.lent (c3) rfl ?_) | (refine CallF.pure (c3) rfl ?_) | (refine CallF.lent (c3) rfl ?_) | (refine CallE.own (c3) ?_) | (refine CallH.pure (c3) rfl ?_) | (refine CallH.lent (c3) rfl ?_) | (refine CallH.own (c3) ?_) | (refine CallE.pure (c4) rfl ?_) | (refine CallE.lent (c4) rfl ?_) | (refine CallF.pure (c4) rfl ?_) | (refine CallF.lent (c4) rfl ?_) | (refine CallE.own (c4) ?_) | (refine CallH.pure (c4) rfl ?_) | (refine CallH.lent (c4) rfl ?_) | (refine CallH.own (c4) ?_)
   all_goals apply hr
   all_goals simp [Tryz.f8]
theorem read14N_con (d : Dk) (g : Int) (hg : g = 3 \/ g = 1) (hk : OkD d) (he : readE d (lgA g) = 6) : ACon Tryz.prog 11 [.p (.agg d.cells), .p (I g)] (.tup [.p (.sl 8 []), .p (I 0), .p (I 0)]) := by
 have c1 := lookE_con d g hg hk (by rw [he]; decide)
 rw [he] at c1
 unfold Dk.cells at *
 refine wBody Tryz.tab Tryz.mixed Tryz.func11 rfl rfl Tryz.ntmps11 (by simp) (by simp) fun Q hr hn => ?_
 repeat' first | (refine hK _ ?_; clear hK) | (refine hK _ _ ?_; clear hK) | (clear hK; refine hK _ ?_; clear hK) | (clear hK; clear hK; refine hK _ ?_; clear hK) | (clear hK; clear hK; clear hK; refine hK _ ?_; clear hK) | (clear hK; clear hK; clear hK; clear hK; refine hK _ ?_; clear hK) | (refine wSeq fun K hK => ?_) | ((first | refine wReg ?_ | refine wDrwQ rfl (by kernel_rfl) ?_ | refine wDrwI ?_ | refine wDrw (by kernel_rfl) ?_); simp only [List.map_cons, List.map_nil, strip]) | ((first | refine wIs fun K hK => ?_ | refine wOs fun K hK => ?_ | refine wQs fun K hK => ?_ | refine CallK_plain ?_ | refine CallQ_plain ?_ | refine CallR_plain ?_ | refine wCond ?_); simp) | (refine wIn ?_; refine And.intro (by kernel_rfl) ?_; try simp only [thenA_n]) | (first | refine wBlock ?_ | refine wScope ?_) | ((first | refine wRet ?_ | refine wExit ?_ | refine wSkip ?_); try simp) | ((first | refine wLabel ?_ | refine wOn ?_ | refine wQn ?_); try simp only [thenA_n]) | (refine CallE.pure (c1) rfl ?_) | (refine CallE.lent (c1) rfl ?_) | (refine CallF.pure (c1) rfl ?_) | (refine CallF.lent (c1) rfl ?_) | (refine CallE.own (c1) ?_) | (refine CallH.pure (c1) rfl ?_) | (refine CallH.lent (c1) rfl ?_) | (refine CallH.own (c1) ?_)
 all_goals apply hr
 all_goals simp [Tryz.f11]
set_option maxHeartbeats 4000000 in
theorem read14_con (d : Dk) (g : Int) (hg : g = 3 \/ g = 1) (hk : OkD d) (b : List UInt8) (l : List (List PV)) (es : List Nat) (z : Nat) (he : readE d (lgA g) = 0) (hb : readB d (lgA g) = b) (hl : b.length <= 10000000) (hj : jl b b.length 0 = (l, es)) (hz : (0 :: es)[l.length]? = some z) (hzb : z <= b.length) :
 ACon Tryz.prog 11 [.p (.agg d.cells), .p (I g)] (.tup [.p (.sl 8 l), .p (I ((b.length - z : Nat) : Int)), .p (I 0)]) := by
 have c1 := lookK_con d g hg hk b he hb hl
 unfold lookT at c1
 rw [hj] at c1
 dsimp only at c1
 have hE : (jE (0 :: es))[l.length]? = some [I (z : Int)] := by unfold jE; rw [List.getElem?_map, hz]; rfl
 generalize jE (0 :: es) = E at *
 have hEg : ∀ h, E[l.length]'h = [I (z : Int)] := fun h => by rw [List.getElem?_eq_getElem h] at hE; exact Option.some.inj hE
 have hEl : l.length < E.length := by rw [List.getElem?_eq_some_iff] at hE; exact hE.1
 have hw : IntKind.i64.wrap ((b.length : Int) - z) = ((b.length - z : Nat) : Int) := by rw [wrap_id] <;> omega
 have hEl' : (l.length : Int) < E.length := by omega
 unfold Dk.cells at *
 clear he hb hj hz
 refine wBody Tryz.tab Tryz.mixed Tryz.func11 rfl rfl Tryz.ntmps11 (by simp) (by simp) fun Q hr hn => ?_
 repeat' first | (refine hK _ ?_; clear hK) | (refine hK _ _ ?_; clear hK) | (clear hK; refine hK _ ?_; clear hK) | (clear hK; clear hK; refine hK _ ?_; clear hK) | (clear hK; clear hK; clear hK; refine hK _ ?_; clear hK) | (clear hK; clear hK; clear hK; clear hK; refine hK _ ?_; clear hK) | (refine wSeq fun K hK => ?_) | ((first | refine wReg ?_ | refine wDrwQ rfl (by kernel_rfl) ?_ | refine wDrwI ?_ | refine wDrw (by kernel_rfl) ?_); simp only [List.map_cons, List.map_nil, strip]) | ((first | refine wIs fun K hK => ?_ | refine wOs fun K hK => ?_ | refine wQs fun K hK => ?_ | refine CallK_plain ?_ | refine CallQ_plain ?_ | refine CallR_plain ?_ | refine wCond ?_); simp [hE, hEg, hEl, hEl', hw]) | (refine wIn ?_; refine And.intro (by kernel_rfl) ?_; try simp only [thenA_n]) | (first | refine wBlock ?_ | refine wScope ?_) | ((first | refine wRet ?_ | refine wExit ?_ | refine wSkip ?_); try simp) | ((first | refine wLabel ?_ | refine wOn ?_ | refine wQn ?_); try simp only [thenA_n]) | (refine CallE.pure (c1) rfl ?_) | (refine CallE.lent (c1) rfl ?_) | (refine CallF.pure (c1) rfl ?_) | (refine CallF.lent (c1) rfl ?_) | (refine CallE.own (c1) ?_) | (refine CallH.pure (c1) rfl ?_) | (refine CallH.lent (c1) rfl ?_) | (refine CallH.own (c1) ?_)
 all_goals apply hr
 all_goals simp [Tryz.f11]
def keepM (d : Dk) (g : Int) (b : List UInt8) (z : Nat) : Dk × Int := if z = b.length then (d, 0) else chg d (lgA g) (fun f => cutF f z) (fun f => cutE f z)
theorem keep14N_con (d : Dk) (g : Int) (hg : g = 3 \/ g = 1) (hk : OkD d) (hn' : d.fs.length <= 1000) (he : readE d (lgA g) = 6) : ACon Tryz.prog 13 [.p (.agg d.cells), .p (I g), .p (I 0)] (.tup [.p (.agg d.cells), .p (I 0)]) := by
 have c1 := lookE_con d g hg hk (by rw [he]; decide)
 have c2 := ownDisk_con d hn' (fun x hx => by have := hk.d x hx; omega)
 rw [he] at c1
 unfold Dk.cells at *
 refine wBody Tryz.tab Tryz.mixed Tryz.func13 rfl rfl Tryz.ntmps13 (by simp) (by simp) fun Q hr hn => ?_
 repeat' first | (refine hK _ ?_; clear hK) | (refine hK _ _ ?_; clear hK) | (clear hK; refine hK _ ?_; clear hK) | (clear hK; clear hK; refine hK _ ?_; clear hK) | (clear hK; clear hK; clear hK; refine hK _ ?_; clear hK) | (clear hK; clear hK; clear hK; clear hK; refine hK _ ?_; clear hK) | (refine wSeq fun K hK => ?_) | ((first | refine wReg ?_ | refine wDrwQ rfl (by kernel_rfl) ?_ | refine wDrwI ?_ | refine wDrw (by kernel_rfl) ?_); simp only [List.map_cons, List.map_nil, strip]) | ((first | refine wIs fun K hK => ?_ | refine wOs fun K hK => ?_ | refine wQs fun K hK => ?_ | refine CallK_plain ?_ | refine CallQ_plain ?_ | refine CallR_plain ?_ | refine wCond ?_); simp) | (refine wIn ?_; refine And.intro (by kernel_rfl) ?_; try simp only [thenA_n]) | (first | refine wBlock ?_ | refine wScope ?_) | ((first | refine wRet ?_ | refine wExit ?_ | refine wSkip ?_); try simp) | ((first | refine wLabel ?_ | refine wOn ?_ | refine wQn ?_); try simp only [thenA_n]) | (refine CallE.pure (c1) rfl ?_) | (refine CallE.lent (c1) rfl ?_) | (refine CallF.pure (c1) rfl ?_) | (refine CallF.lent (c1) rfl ?_) | (refine CallE.own (c1) ?_) | (refine CallH.pure (c1) rfl ?_) | (refine CallH.lent (c1) rfl ?_) | (refine CallH.own (c1) ?_) | (refine CallE.pure (c2) rfl ?_) | (refine CallE.lent (c2) rfl ?_) | (refine CallF.pure (c2) rfl ?_) | (refine CallF.lent (c2) rfl ?_) | (refine CallE.own (c2) ?_) | (refine CallH.pure (c2) rfl ?_) | (refine CallH.lent (c2) rfl ?_) | (refine CallH.own (c2) ?_)
 all_goals apply hr
 all_goals simp [Tryz.f13]
set_option maxHeartbeats 4000000 in
theorem keep14_con (d : Dk) (g : Int) (hg : g = 3 \/ g = 1) (hk : OkK d) (hn' : d.fs.length <= 1000) (b : List UInt8) (l : List (List PV)) (es : List Nat) (n z : Nat) (he : readE d (lgA g) = 0) (hb : readB d (lgA g) = b) (hl : b.length <= 10000000) (hj : jl b b.length 0 = (l, es)) (hnl : n <= l.length) (hll : l.length <= 10000000) (hz : (0 :: es)[n]? = some z) :
 ACon Tryz.prog 13 [.p (.agg d.cells), .p (I g), .p (I n)] (.tup [.p (.agg (keepM d g b z).1.cells), .p (I (keepM d g b z).2)]) := by
 have c1 := lookK_con d g hg hk.toOkD b he hb hl
 have c2 := ownDisk_con d hn' (fun x hx => by have := hk.d x hx; omega)
 have c3 := nameA_con hg
 have c4 := cut_con d (lgA g) z hk
 unfold lookT at c1
 rw [hj] at c1
 dsimp only at c1
 have hE : (jE (0 :: es))[n]? = some [I (z : Int)] := by unfold jE; rw [List.getElem?_map, hz]; rfl
 generalize jE (0 :: es) = E at *
 have hEg : ∀ h, E[n]'h = [I (z : Int)] := fun h => by rw [List.getElem?_eq_getElem h] at hE; exact Option.some.inj hE
 have hEl : n < E.length := by rw [List.getElem?_eq_some_iff] at hE; exact hE.1
 have hEl' : (n : Int) < E.length := by omega
 have hnl' : ¬ (l.length : Int) < n := by omega
 have hn0 : ¬ (n : Int) < 0 := by omega
 unfold keepM
 generalize chg d (lgA g) (fun f => cutF f z) (fun f => cutE f z) = r at *
 generalize lgA g = nm at *
 obtain ⟨d2, e2⟩ := r
 simp only at *
 unfold Dk.cells at *
 clear he hb hj hz
 by_cases hzb : z = b.length
 ·rw [if_pos hzb]
  have hzb' : (z : Int) = b.length := by omega
  refine wBody Tryz.tab Tryz.mixed Tryz.func13 rfl rfl Tryz.ntmps13 (by simp) (by simp) fun Q hr hn => ?_
  repeat' first | (refine hK _ ?_; clear hK) | (refine hK _ _ ?_; clear hK) | (clear hK; refine hK _ ?_; clear hK) | (clear hK; clear hK; refine hK _ ?_; clear hK) | (clear hK; clear hK; clear hK; refine hK _ ?_; clear hK) | (clear hK; clear hK; clear hK; clear hK; refine hK _ ?_; clear hK) | (refine wSeq fun K hK => ?_) | ((first | refine wReg ?_ | refine wDrwQ rfl (by kernel_rfl) ?_ | refine wDrwI ?_ | refine wDrw (by kernel_rfl) ?_); simp only [List.map_cons, List.map_nil, strip]) | ((first | refine wIs fun K hK => ?_ | refine wOs fun K hK => ?_ | refine wQs fun K hK => ?_ | refine CallK_plain ?_ | refine CallQ_plain ?_ | refine CallR_plain ?_ | refine wCond ?_); simp [hE, hEg, hEl, hEl', hnl', hn0, hzb, hzb']) | (refine wIn ?_; refine And.intro (by kernel_rfl) ?_; try simp only [thenA_n]) | (first | refine wBlock ?_ | refine wScope ?_) | ((first | refine wRet ?_ | refine wExit ?_ | refine wSkip ?_); try simp) | ((first | refine wLabel ?_ | refine wOn ?_ | refine wQn ?_); try simp only [thenA_n]) | (refine CallE.pure (c1) rfl ?_) | (refine CallE.lent (c1) rfl ?_) | (refine CallF.pure (c1) rfl ?_) | (refine CallF.lent (c1) rfl ?_) | (refine CallE.own (c1) ?_) | (refine CallH.pure (c1) rfl ?_) | (refine CallH.lent (c1) rfl ?_) | (refine CallH.own (c1) ?_) | (refine CallE.pure (c2) rfl ?_) | (refine CallE.lent (c2) rfl ?_) | (refine CallF.pure (c2) rfl ?_) | (refine CallF.lent (c2) rfl ?_) | (refine CallE.own (c2) ?_) | (refine CallH.pure (c2) rfl ?_) | (refine CallH.lent (c2) rfl ?_) | (refine CallH.own (c2) ?_)
  all_goals apply hr
  all_goals simp [Tryz.f13]
 ·rw [if_neg hzb]
  have hzb' : ¬ (z : Int) = b.length := by omega
  refine wBody Tryz.tab Tryz.mixed Tryz.func13 rfl rfl Tryz.ntmps13 (by simp) (by simp) fun Q hr hn => ?_
  repeat' first | (refine hK _ ?_; clear hK) | (refine hK _ _ ?_; clear hK) | (clear hK; refine hK _ ?_; clear hK) | (clear hK; clear hK; refine hK _ ?_; clear hK) | (clear hK; clear hK; clear hK; refine hK _ ?_; clear hK) | (clear hK; clear hK; clear hK; clear hK; refine hK _ ?_; clear hK) | (refine wSeq fun K hK => ?_) | ((first | refine wReg ?_ | refine wDrwQ rfl (by kernel_rfl) ?_ | refine wDrwI ?_ | refine wDrw (by kernel_rfl) ?_); simp only [List.map_cons, List.map_nil, strip]) | ((first | refine wIs fun K hK => ?_ | refine wOs fun K hK => ?_ | refine wQs fun K hK => ?_ | refine CallK_plain ?_ | refine CallQ_plain ?_ | refine CallR_plain ?_ | refine wCond ?_); simp [hE, hEg, hEl, hEl', hnl', hn0, hzb, hzb']) | (refine wIn ?_; refine And.intro (by kernel_rfl) ?_; try simp only [thenA_n]) | (first | refine wBlock ?_ | refine wScope ?_) | ((first | refine wRet ?_ | refine wExit ?_ | refine wSkip ?_); try simp) | ((first | refine wLabel ?_ | refine wOn ?_ | refine wQn ?_); try simp only [thenA_n]) | (refine CallE.pure (c1) rfl ?_) | (refine CallE.lent (c1) rfl ?_) | (refine CallF.pure (c1) rfl ?_) | (refine CallF.lent (c1) rfl ?_) | (refine CallE.own (c1) ?_) | (refine CallH.pure (c1) rfl ?_) | (refine CallH.lent (c1) rfl ?_) | (refine CallH.own (c1) ?_) | (refine CallE.pure (c3) rfl ?_) | (refine CallE.lent (c3) rfl ?_) | (refine CallF.pure (c3) rfl ?_) | (refine CallF.lent (c3) rfl ?_) | (refine CallE.own (c3) ?_) | (refine CallH.pure (c3) rfl ?_) | (refine CallH.lent (c3) rfl ?_) | (refine CallH.own (c3) ?_) | (refine CallE.pure (c4) rfl ?_) | (refine CallE.lent (c4) rfl ?_) | (refine CallF.pure (c4) rfl ?_) | (refine CallF.lent (c4) rfl ?_) | (refine CallE.own (c4) ?_) | (refine CallH.pure (c4) rfl ?_) | (refine CallH.lent (c4) rfl ?_) | (refine CallH.own (c4) ?_)
  all_goals apply hr
  all_goals simp [Tryz.f13]
end Go.Proofs.YtbeofcbehhljdaaGreatDoor
namespace Go.Proofs.YtbeofcbehhljdaaGreatDoor
set_option linter.unusedSimpArgs false
set_option linter.unusedVariables false
open Go Go.Av
attribute [local irreducible] Go.Av.CallK Go.Av.CallE Go.Av.CallQ Go.Av.CallF Go.Av.CallR Go.Av.CallH Go.Av.Con
def crS (f : Fl) (k : Int) : Int := if 0 < k then min (max f.s 0) f.d.length + min k (f.d.length - min (max f.s 0) f.d.length) else min (max f.s 0) f.d.length
def crF (f : Fl) (k : Int) : Fl := ⟨f.n, f.d.take (crS f k).toNat, crS f k⟩
theorem crS_le (f : Fl) (k : Int) : 0 <= crS f k /\ crS f k <= f.d.length := by unfold crS; split <;> omega
def crL (l : List Fl) (ks : List Int) : List Fl := l.mapIdx fun i f => crF f (ks.getD i 0)
@[simp] theorem crL_len (l : List Fl) (ks : List Int) : (crL l ks).length = l.length := by simp [crL]
theorem crL_get {l : List Fl} {ks : List Int} {k : Nat} (h : k < l.length) : (crL l ks)[k]'(by simpa using h) = crF l[k] (ks.getD k 0) := by simp [crL]
def crsh (d : Dk) (ks : List Int) : Dk := ⟨crL d.fs ks, d.cap, 0, true⟩
def crT (l : List Fl) (ks : List Int) (k : Nat) : List Fl := (crL l ks).take k ++ l.drop k
theorem crT_len (l : List Fl) (ks : List Int) (k : Nat) (h : k <= l.length) : (crT l ks k).length = l.length := by simp [crT]; omega
theorem crT_get {l : List Fl} {ks : List Int} {k : Nat} (h : k < l.length) : (crT l ks k)[k]'(by rw [crT_len _ _ _ (by omega)]; exact h) = l[k] := by
 simp only [crT]
 rw [List.getElem_append_right (by simp; omega)]
 simp [Nat.min_eq_left (Nat.le_of_lt h)]
theorem crT_set {l : List Fl} {ks : List Int} {k : Nat} (h : k < l.length) : (crT l ks k).set k (crF l[k] (ks.getD k 0)) = crT l ks (k + 1) := by
 have e : k - ((crL l ks).take k).length = 0 := by simp; omega
 unfold crT
 rw [List.set_append_right _ _ (by simp; omega), e, List.drop_eq_getElem_cons h, List.set_cons_zero, List.take_succ_eq_append_getElem (by simpa using h), crL_get h, List.append_assoc]
 rfl
end Go.Proofs.YtbeofcbehhljdaaGreatDoor
namespace Go.Proofs.YtbeofcbehhljdaaGreatDoor
set_option linter.unusedSimpArgs false
set_option linter.unusedVariables false
set_option maxRecDepth 8000
open Go Go.Av
attribute [local irreducible] Go.Av.CallK Go.Av.CallE Go.Av.CallQ Go.Av.CallF Go.Av.CallR Go.Av.CallH Go.Av.Con
theorem new13_con (n : Int) : ACon Tryz.prog 7 [.p (I n)] (.p (.agg (newD n).cells)) := by
 unfold newD Dk.cells
 refine wBody Tryz.tab Tryz.mixed Tryz.func7 rfl rfl Tryz.ntmps7 (by simp) (by simp) fun Q hr hn => ?_
 repeat' first | (refine hK _ ?_; clear hK) | (refine hK _ _ ?_; clear hK) | (clear hK; refine hK _ ?_; clear hK) | (clear hK; clear hK; refine hK _ ?_; clear hK) | (clear hK; clear hK; clear hK; refine hK _ ?_; clear hK) | (clear hK; clear hK; clear hK; clear hK; refine hK _ ?_; clear hK) | (refine wSeq fun K hK => ?_) | ((first | refine wReg ?_ | refine wDrwQ rfl (by kernel_rfl) ?_ | refine wDrwI ?_ | refine wDrw (by kernel_rfl) ?_); simp only [List.map_cons, List.map_nil, strip]) | ((first | refine wIs fun K hK => ?_ | refine wOs fun K hK => ?_ | refine wQs fun K hK => ?_ | refine CallK_plain ?_ | refine CallQ_plain ?_ | refine CallR_plain ?_ | refine wCond ?_); simp) | (refine wIn ?_; refine And.intro (by kernel_rfl) ?_; try simp only [thenA_n]) | (first | refine wBlock ?_ | refine wScope ?_) | ((first | refine wRet ?_ | refine wExit ?_ | refine wSkip ?_); try simp) | ((first | refine wLabel ?_ | refine wOn ?_ | refine wQn ?_); try simp only [thenA_n])
 all_goals apply hr
 all_goals simp [Tryz.f7, fls]
 all_goals (split <;> omega)
set_option maxHeartbeats 2000000 in
theorem copied13_con (d : Dk) (hk : OkD d) : Con Tryz.prog 15 [.p (.agg d.cells)] [] (.ret (.ag [.row 2048, .p (I d.cap), .p (I d.fuse), .p (B d.dn)]) [.row 62 3 (fls d.fs)] []) := by
 obtain ⟨fs, cap, fuse, dn⟩ := d
 obtain ⟨h1, h2⟩ := hk
 simp only at h1 h2
 unfold Dk.cells
 dsimp only
 refine wBodyG Tryz.tab Tryz.mixed Tryz.func15 rfl rfl Tryz.ntmps15 (by simp) (by simp) fun Q hr hn hp => ?_
 repeat' first | (refine hK _ ?_; clear hK) | (refine hK _ _ ?_; clear hK) | (clear hK; refine hK _ ?_; clear hK) | (clear hK; clear hK; refine hK _ ?_; clear hK) | (clear hK; clear hK; clear hK; refine hK _ ?_; clear hK) | (clear hK; clear hK; clear hK; clear hK; refine hK _ ?_; clear hK) | (refine wSeq fun K hK => ?_) | ((first | refine wReg ?_ | refine wDrwQ rfl (by kernel_rfl) ?_ | refine wDrwI ?_ | refine wDrw (by kernel_rfl) ?_); simp only [List.map_cons, List.map_nil, strip]) | ((first | refine wIs fun K hK => ?_ | refine wOs fun K hK => ?_ | refine wQs fun K hK => ?_ | refine CallK_plain ?_ | refine CallQ_plain ?_ | refine CallR_plain ?_ | refine wCond ?_); simp) | (refine wIn ?_; refine And.intro (by kernel_rfl) ?_; try simp only [thenA_n]) | (first | refine wBlock ?_ | refine wScope ?_) | ((first | refine wRet ?_ | refine wExit ?_ | refine wSkip ?_); try simp) | ((first | refine wLabel ?_ | refine wOn ?_ | refine wQn ?_); try simp only [thenA_n])
 refine wLoopG [.cel 3 0 24 62 3] (fun N st => ∃ k, k + N = fs.length /\ st.s 2 = .ptr 2 0 /\ st.b 2 = some (.box 28 [.nil 3, .p (I 0), .p (I 0), .p (B false)]) /\ st.s 3 = .ptr 3 0 /\ st.b 3 = some (.box 28 [.row 24, .p (I cap), .p (I fuse), .p (B dn)]) /\ st.b 24 = some (.row 62 3 (fls (fs.take k))) /\ st.s 9 = .p (.sl 3 (fls fs)) /\ st.s 10 = .p (I fs.length) /\ st.s 11 = .p (I k)) fs.length ⟨0, by simp [fls]⟩ fun K N st hL ⟨k, hk, g2, b2, g3, b3, b24, g9, g10, g11⟩ => ?_
 by_cases hlt : k < fs.length
 ·have hlt' : (k : Int) < fs.length := by omega
  have hw := wrapS k _ hlt (by omega)
  have he := fls_get hlt
  have hd := h2 _ (List.getElem_mem hlt)
  have hs := fls_snoc (fs.take k) fs[k]
  rw [<- List.take_succ_eq_append_getElem hlt] at hs
  generalize hF : fs[k] = f at *
  repeat' first | (refine And.intro (by omega) (Or.inr ?_)) | (refine And.intro (by omega) ?_) | (refine hK _ ?_; clear hK) | (refine hK _ _ ?_; clear hK) | (clear hK; refine hK _ ?_; clear hK) | (clear hK; clear hK; refine hK _ ?_; clear hK) | (clear hK; clear hK; clear hK; refine hK _ ?_; clear hK) | (clear hK; clear hK; clear hK; clear hK; refine hK _ ?_; clear hK) | (refine wSeq fun K hK => ?_) | ((first | refine wReg ?_ | refine wDrwQ rfl (by kernel_rfl) ?_ | refine wDrwI ?_ | refine wDrw (by kernel_rfl) ?_); simp only [List.map_cons, List.map_nil, strip]) | ((first | refine wIs fun K hK => ?_ | refine wOs fun K hK => ?_ | refine wQs fun K hK => ?_ | refine CallK_plain ?_ | refine CallQ_plain ?_ | refine CallR_plain ?_ | refine wCond ?_); simp [g2, b2, g3, b3, b24, g9, g10, g11, hlt, hlt', hw, he, hF]) | (refine wIn ?_; refine And.intro (by kernel_rfl) ?_; try simp only [thenA_n]) | (first | refine wBlock ?_ | refine wScope ?_) | ((first | refine wRet ?_ | refine wExit ?_ | refine wSkip ?_); try simp) | ((first | refine wLabel ?_ | refine wOn ?_ | refine wQn ?_); try simp only [thenA_n])
  refine hL _ (N - 1) (by omega) ⟨k + 1, by omega, ?_⟩
  simp [g2, b2, g3, b3, b24, g9, g10, g11, hw, hs]
 ·have hlt' : ¬ (k : Int) < fs.length := by omega
  rw [List.take_of_length_le (by omega)] at b24
  repeat' first | (refine hK _ ?_; clear hK) | (refine hK _ _ ?_; clear hK) | (clear hK; refine hK _ ?_; clear hK) | (clear hK; clear hK; refine hK _ ?_; clear hK) | (clear hK; clear hK; clear hK; refine hK _ ?_; clear hK) | (clear hK; clear hK; clear hK; clear hK; refine hK _ ?_; clear hK) | (refine wSeq fun K hK => ?_) | ((first | refine wReg ?_ | refine wDrwQ rfl (by kernel_rfl) ?_ | refine wDrwI ?_ | refine wDrw (by kernel_rfl) ?_); simp only [List.map_cons, List.map_nil, strip]) | ((first | refine wIs fun K hK => ?_ | refine wOs fun K hK => ?_ | refine wQs fun K hK => ?_ | refine CallK_plain ?_ | refine CallQ_plain ?_ | refine CallR_plain ?_ | refine wCond ?_); simp [g2, b2, g3, b3, b24, g9, g10, g11, hlt, hlt']) | (refine wIn ?_; refine And.intro (by kernel_rfl) ?_; try simp only [thenA_n]) | (first | refine wBlock ?_ | refine wScope ?_) | ((first | refine wRet ?_ | refine wExit ?_ | refine wSkip ?_); try simp) | ((first | refine wLabel ?_ | refine wOn ?_ | refine wQn ?_); try simp only [thenA_n])
  all_goals apply hr
  all_goals refine ⟨[24], by simp, by simp, ?_⟩
  all_goals simp [Tryz.f15, outR, outB, renB, g2, b2, b24]
theorem start13_con (d : Dk) (hk : OkD d) : ACon Tryz.prog 9 [.p (.agg d.cells)] (.p (.agg (staD d).cells)) := by
 have c1 := copied13_con d hk
 unfold staD
 obtain ⟨fs, cap, fuse, dn⟩ := d
 unfold Dk.cells at c1 ⊢
 dsimp only at c1 ⊢
 refine wBody Tryz.tab Tryz.mixed Tryz.func9 rfl rfl Tryz.ntmps9 (by simp) (by simp) fun Q hr hn => ?_
 repeat' first | (refine CallK_gen [] (c1) (by decide) (by decide) (by simp [blksOf]) (by simp [argsG, argG, ren0, inN, pos, renCs, renC, toP, toPF]) ⟨[500], by simp, by simp, ?_⟩; simp [lv, ouN, kpI, kpR, pos, ren, ren0, renB, renC, renCs, renF, renFs]) | (refine hK _ ?_; clear hK) | (refine hK _ _ ?_; clear hK) | (clear hK; refine hK _ ?_; clear hK) | (clear hK; clear hK; refine hK _ ?_; clear hK) | (clear hK; clear hK; clear hK; refine hK _ ?_; clear hK) | (clear hK; clear hK; clear hK; clear hK; refine hK _ ?_; clear hK) | (refine wSeq fun K hK => ?_) | ((first | refine wReg ?_ | refine wDrwQ rfl (by kernel_rfl) ?_ | refine wDrwI ?_ | refine wDrw (by kernel_rfl) ?_); simp only [List.map_cons, List.map_nil, strip]) | ((first | refine wIs fun K hK => ?_ | refine wOs fun K hK => ?_ | refine wQs fun K hK => ?_ | refine CallK_plain ?_ | refine CallQ_plain ?_ | refine CallR_plain ?_ | refine wCond ?_); simp [lv, ouN, kpI, kpR, pos, ren, ren0, renB, renC, renCs, renF, renFs]) | (refine wIn ?_; refine And.intro (by kernel_rfl) ?_; try simp only [thenA_n]) | (first | refine wBlock ?_ | refine wScope ?_) | ((first | refine wRet ?_ | refine wExit ?_ | refine wSkip ?_); try simp) | ((first | refine wLabel ?_ | refine wOn ?_ | refine wQn ?_); try simp only [thenA_n])
 all_goals apply hr
 all_goals simp [Tryz.f9]
theorem arm13_con (d : Dk) (n : Int) (hk : OkD d) : ACon Tryz.prog 6 [.p (.agg d.cells), .p (I n)] (.p (.agg (armD d n).cells)) := by
 have c1 := copied13_con d hk
 unfold armD
 obtain ⟨fs, cap, fuse, dn⟩ := d
 unfold Dk.cells at c1 ⊢
 dsimp only at c1 ⊢
 cases dn <;> simp only [if_true, if_false, Bool.false_eq_true]
 all_goals
  refine wBody Tryz.tab Tryz.mixed Tryz.func6 rfl rfl Tryz.ntmps6 (by simp) (by simp) fun Q hr hn => ?_
  repeat' first | (refine CallK_gen [] (c1) (by decide) (by decide) (by simp [blksOf]) (by simp [argsG, argG, ren0, inN, pos, renCs, renC, toP, toPF]) ⟨[500], by simp, by simp, ?_⟩; simp [lv, ouN, kpI, kpR, pos, ren, ren0, renB, renC, renCs, renF, renFs]) | (refine hK _ ?_; clear hK) | (refine hK _ _ ?_; clear hK) | (clear hK; refine hK _ ?_; clear hK) | (clear hK; clear hK; refine hK _ ?_; clear hK) | (clear hK; clear hK; clear hK; refine hK _ ?_; clear hK) | (clear hK; clear hK; clear hK; clear hK; refine hK _ ?_; clear hK) | (refine wSeq fun K hK => ?_) | ((first | refine wReg ?_ | refine wDrwQ rfl (by kernel_rfl) ?_ | refine wDrwI ?_ | refine wDrw (by kernel_rfl) ?_); simp only [List.map_cons, List.map_nil, strip]) | ((first | refine wIs fun K hK => ?_ | refine wOs fun K hK => ?_ | refine wQs fun K hK => ?_ | refine CallK_plain ?_ | refine CallQ_plain ?_ | refine CallR_plain ?_ | refine wCond ?_); simp [lv, ouN, kpI, kpR, pos, ren, ren0, renB, renC, renCs, renF, renFs]) | (refine wIn ?_; refine And.intro (by kernel_rfl) ?_; try simp only [thenA_n]) | (first | refine wBlock ?_ | refine wScope ?_) | ((first | refine wRet ?_ | refine wExit ?_ | refine wSkip ?_); try simp) | ((first | refine wLabel ?_ | refine wOn ?_ | refine wQn ?_); try simp only [thenA_n])
  all_goals apply hr
  all_goals simp [Tryz.f6]
  all_goals (try split <;> omega)
set_option maxHeartbeats 8000000 in
theorem crash13_con (d : Dk) (ks : List Int) (hk : OkD d) (hsu : ∀ f ∈ d.fs, 0 <= f.s /\ f.s <= f.d.length) (hks : ks.length <= 1000000) : ACon Tryz.prog 10 [.p (.agg d.cells), .p (.sl 1 (ints ks))] (.p (.agg (crsh d ks).cells)) := by
 have c1 := copied13_con d hk
 have hkd := hk.d
 have hkn := hk.n
 unfold crsh
 obtain ⟨fs, cap, fuse, dn⟩ := d
 unfold Dk.cells at c1 ⊢
 dsimp only at c1 hkd hkn hsu ⊢
 refine wBody Tryz.tab Tryz.mixed Tryz.func10 rfl rfl Tryz.ntmps10 (by simp) (by simp) fun Q hr hn => ?_
 repeat' first | (refine CallK_gen [] (c1) (by decide) (by decide) (by simp [blksOf]) (by simp [argsG, argG, ren0, inN, pos, renCs, renC, toP, toPF]) ⟨[500], by simp, by simp, ?_⟩; simp [lv, ouN, kpI, kpR, pos, ren, ren0, renB, renC, renCs, renF, renFs]) | (refine hK _ ?_; clear hK) | (refine hK _ _ ?_; clear hK) | (clear hK; refine hK _ ?_; clear hK) | (clear hK; clear hK; refine hK _ ?_; clear hK) | (clear hK; clear hK; clear hK; refine hK _ ?_; clear hK) | (clear hK; clear hK; clear hK; clear hK; refine hK _ ?_; clear hK) | (refine wSeq fun K hK => ?_) | ((first | refine wReg ?_ | refine wDrwQ rfl (by kernel_rfl) ?_ | refine wDrwI ?_ | refine wDrw (by kernel_rfl) ?_); simp only [List.map_cons, List.map_nil, strip]) | ((first | refine wIs fun K hK => ?_ | refine wOs fun K hK => ?_ | refine wQs fun K hK => ?_ | refine CallK_plain ?_ | refine CallQ_plain ?_ | refine CallR_plain ?_ | refine wCond ?_); simp [lv, ouN, kpI, kpR, pos, ren, ren0, renB, renC, renCs, renF, renFs]) | (refine wIn ?_; refine And.intro (by kernel_rfl) ?_; try simp only [thenA_n]) | (first | refine wBlock ?_ | refine wScope ?_) | ((first | refine wRet ?_ | refine wExit ?_ | refine wSkip ?_); try simp) | ((first | refine wLabel ?_ | refine wOn ?_ | refine wQn ?_); try simp only [thenA_n])
 refine wLoop (fun N st => ∃ k, k + N = fs.length /\ st.s 1 = .p (.sl 1 (ints ks)) /\ st.s 5 = .ptr 5 0 /\ st.b 5 = some (.box 28 [.row 500, .p (I cap), .p (I 0), .p (B true)]) /\ st.s 4 = .ptr 4 0 /\ st.b 4 = some (.box 28 [.nil 3, .p (I 0), .p (I 0), .p (B false)]) /\ st.b 500 = some (.row 62 3 (fls (crT fs ks k))) /\ st.s 15 = .p (I fs.length) /\ st.s 16 = .p (I k)) fs.length ⟨0, by simp [crT]⟩ fun K N st hL ⟨k, hk, g1, g2, b2, g4, b4, b500, g14, g15⟩ => ?_
 by_cases hlt : k < fs.length
 ·have hlt' : (k : Int) < fs.length := by omega
  have hw := wrapS k _ hlt (by omega)
  have hlT := crT_len fs ks k (by omega)
  have hlt2 : k < (crT fs ks k).length := by omega
  have hgT := crT_get (ks := ks) hlt
  have hset := crT_set (ks := ks) hlt
  have hdl := hkd _ (List.getElem_mem hlt)
  obtain ⟨hs0, hs1⟩ := hsu _ (List.getElem_mem hlt)
  have he := fls_get hlt2
  rw [hgT] at he
  have hst := fls_set (crT fs ks k) k (crF fs[k] (ks.getD k 0))
  rw [hset] at hst
  have hs := crS_le fs[k] (ks.getD k 0)
  have htk := by8_take fs[k].d (crS fs[k] (ks.getD k 0)).toNat
  unfold crF at hst
  dsimp only at hst
  have hL2 : ∀ st : St, st.s 1 = .p (.sl 1 (ints ks)) -> st.s 5 = .ptr 5 0 -> st.b 5 = some (.box 28 [.row 500, .p (I cap), .p (I 0), .p (B true)]) -> st.s 4 = .ptr 4 0 -> st.b 4 = some (.box 28 [.nil 3, .p (I 0), .p (I 0), .p (B false)]) -> st.b 500 = some (.row 62 3 (fls (crT fs ks (k + 1)))) -> st.s 15 = .p (I fs.length) -> st.s 16 = .p (I ((k + 1 : Nat) : Int)) -> K st := fun st a1 a2 a3 a4 a5 a6 a7 a8 => hL st (N - 1) (by omega) ⟨k + 1, by omega, a1, a2, a3, a4, a5, a6, a7, a8⟩
  clear hL hset
  generalize hF : fs[k] = f at *
  have hdn : f.d.length < 9223372036854775808 := by omega
  obtain ⟨a, ha⟩ : ∃ a : Nat, f.s = a := ⟨f.s.toNat, by omega⟩
  have hA : min (max f.s 0) (f.d.length : Int) = a := by omega
  have hal : a <= f.d.length := by omega
  have hw1 : IntKind.i64.wrap ((f.d.length : Int) - a) = f.d.length - a := by rw [wrap_id] <;> omega
  obtain ⟨m, hm, hw2, hml⟩ : ∃ m : Nat, crS f (ks.getD k 0) = m /\ m <= f.d.length /\ a <= m := by
   refine ⟨(crS f (ks.getD k 0)).toNat, by omega, by omega, ?_⟩
   have : (a : Int) <= crS f (ks.getD k 0) := by unfold crS; rw [hA]; split <;> omega
   omega
  rw [hm] at hst hs htk
  simp only [Int.toNat_natCast] at hst htk
  have hcr : crS f (ks.getD k 0) = if 0 < ks.getD k 0 then (a : Int) + min (ks.getD k 0) (f.d.length - a) else a := by unfold crS; rw [hA]
  rw [hm] at hcr
  have hml' : (m : Int) <= f.d.length := by omega
  have htl : (by8 (f.d.take m)).length = m := by simp; omega
  have htl2 : (f.d.take m).length = m := by simp; omega
  by_cases hki : k < ks.length
  ·have hki' : (k : Int) < ks.length := by omega
   have he2 := ints_get hki
   have hgd : ks.getD k 0 = ks[k] := by rw [List.getD_eq_getElem?_getD, List.getElem?_eq_getElem hki]; rfl
   rw [hgd] at hcr
   generalize hQ : ks[k] = q at *
   obtain ⟨u, hu⟩ : ∃ u : Int, (if (f.d.length : Int) - a < q then (f.d.length : Int) - a else q) = u := ⟨_, rfl⟩
   obtain ⟨r, hr'⟩ : ∃ r : Nat, (if 0 < u then u else 0) = (r : Int) := ⟨(if 0 < u then u else 0).toNat, by split <;> omega⟩
   have hmr : (m : Int) = a + r := by rw [hcr, <- hr', <- hu]; (repeat' split) <;> omega
   have hw3 : IntKind.i64.wrap ((a : Int) + r) = (m : Int) := by rw [wrap_id] <;> omega
   clear hcr hmr
   repeat' first | (refine hK _ ?_; clear hK) | (refine hK _ _ ?_; clear hK) | (clear hK; refine hK _ ?_; clear hK) | (clear hK; clear hK; refine hK _ ?_; clear hK) | (clear hK; clear hK; clear hK; refine hK _ ?_; clear hK) | (clear hK; clear hK; clear hK; clear hK; refine hK _ ?_; clear hK) | (refine wSeq fun K hK => ?_) | ((first | refine wReg ?_ | refine wDrwQ rfl (by kernel_rfl) ?_ | refine wDrwI ?_ | refine wDrw (by kernel_rfl) ?_); simp only [List.map_cons, List.map_nil, strip]) | ((first | refine wIs fun K hK => ?_ | refine wOs fun K hK => ?_ | refine wQs fun K hK => ?_ | refine CallK_plain ?_ | refine CallQ_plain ?_ | refine CallR_plain ?_ | refine wCond ?_); simp [g1, g2, b2, g4, b4, b500, g14, g15, hlt, hlt', hlt2, hw, he, hdn, hgT, ha, hw1, hw2, hw3, hml', htk, hst, hu, hr', hki, hki', he2, hQ, htl, htl2]) | (refine wIn ?_; refine And.intro (by kernel_rfl) ?_; try simp only [thenA_n]) | (first | refine wBlock ?_ | refine wScope ?_) | ((first | refine wRet ?_ | refine wExit ?_ | refine wSkip ?_); try simp) | ((first | refine wLabel ?_ | refine wOn ?_ | refine wQn ?_); try simp only [thenA_n])
   all_goals refine hL2 _ ?_ ?_ ?_ ?_ ?_ ?_ ?_ ?_
   all_goals simp [g1, g2, b2, g4, b4, b500, g14, g15, hw, hst, htl, htl2]
  ·have hki' : ¬ (k : Int) < ks.length := by omega
   have hgd : ks.getD k 0 = 0 := by rw [List.getD_eq_getElem?_getD, List.getElem?_eq_none (by omega)]; rfl
   rw [hgd, if_neg (by omega)] at hcr
   have hmr : m = a := by omega
   have hw3 : IntKind.i64.wrap (a : Int) = (m : Int) := by rw [wrap_id] <;> omega
   clear hcr hmr
   repeat' first | (refine hK _ ?_; clear hK) | (refine hK _ _ ?_; clear hK) | (clear hK; refine hK _ ?_; clear hK) | (clear hK; clear hK; refine hK _ ?_; clear hK) | (clear hK; clear hK; clear hK; refine hK _ ?_; clear hK) | (clear hK; clear hK; clear hK; clear hK; refine hK _ ?_; clear hK) | (refine wSeq fun K hK => ?_) | ((first | refine wReg ?_ | refine wDrwQ rfl (by kernel_rfl) ?_ | refine wDrwI ?_ | refine wDrw (by kernel_rfl) ?_); simp only [List.map_cons, List.map_nil, strip]) | ((first | refine wIs fun K hK => ?_ | refine wOs fun K hK => ?_ | refine wQs fun K hK => ?_ | refine CallK_plain ?_ | refine CallQ_plain ?_ | refine CallR_plain ?_ | refine wCond ?_); simp [g1, g2, b2, g4, b4, b500, g14, g15, hlt, hlt', hlt2, hw, he, hdn, hgT, ha, hw2, hw3, hml', htk, hst, hki, hki', htl, htl2]) | (refine wIn ?_; refine And.intro (by kernel_rfl) ?_; try simp only [thenA_n]) | (first | refine wBlock ?_ | refine wScope ?_) | ((first | refine wRet ?_ | refine wExit ?_ | refine wSkip ?_); try simp) | ((first | refine wLabel ?_ | refine wOn ?_ | refine wQn ?_); try simp only [thenA_n])
   all_goals refine hL2 _ ?_ ?_ ?_ ?_ ?_ ?_ ?_ ?_
   all_goals simp [g1, g2, b2, g4, b4, b500, g14, g15, hw, hst, htl, htl2]
 ·have hlt' : ¬ (k : Int) < fs.length := by omega
  have e : crT fs ks k = crL fs ks := by
   unfold crT
   rw [List.take_of_length_le (by simp; omega), List.drop_of_length_le (by omega), List.append_nil]
  rw [e] at b500
  repeat' first | (refine hK _ ?_; clear hK) | (refine hK _ _ ?_; clear hK) | (clear hK; refine hK _ ?_; clear hK) | (clear hK; clear hK; refine hK _ ?_; clear hK) | (clear hK; clear hK; clear hK; refine hK _ ?_; clear hK) | (clear hK; clear hK; clear hK; clear hK; refine hK _ ?_; clear hK) | (refine wSeq fun K hK => ?_) | ((first | refine wReg ?_ | refine wDrwQ rfl (by kernel_rfl) ?_ | refine wDrwI ?_ | refine wDrw (by kernel_rfl) ?_); simp only [List.map_cons, List.map_nil, strip]) | ((first | refine wIs fun K hK => ?_ | refine wOs fun K hK => ?_ | refine wQs fun K hK => ?_ | refine CallK_plain ?_ | refine CallQ_plain ?_ | refine CallR_plain ?_ | refine wCond ?_); simp [g1, g2, b2, g4, b4, b500, g14, g15, hlt, hlt']) | (refine wIn ?_; refine And.intro (by kernel_rfl) ?_; try simp only [thenA_n]) | (first | refine wBlock ?_ | refine wScope ?_) | ((first | refine wRet ?_ | refine wExit ?_ | refine wSkip ?_); try simp) | ((first | refine wLabel ?_ | refine wOn ?_ | refine wQn ?_); try simp only [thenA_n])
  all_goals apply hr
  all_goals simp [Tryz.f10, g4, b4, b2, b500]
set_option maxHeartbeats 1000000 in
theorem selfCf (cs : List PV) (hk : fCf.ok cs) : ACon Tryz.prog 39 [vOf cs, vOf cs] (.p (B true)) := by
 obtain ⟨e, n, kd, rows, rfl, -, -, k2⟩ := fCf_sh hk
 obtain ⟨hl, ho⟩ := fl_ok k2
 simp only [vOf2]
 refine wBody Tryz.tab Tryz.mixed Tryz.func39 rfl rfl Tryz.ntmps39 (by simp) (by simp) fun Q hr hn => ?_
 repeat' first | (refine hK _ ?_; clear hK) | (refine hK _ _ ?_; clear hK) | (clear hK; refine hK _ ?_; clear hK) | (clear hK; clear hK; refine hK _ ?_; clear hK) | (clear hK; clear hK; clear hK; refine hK _ ?_; clear hK) | (clear hK; clear hK; clear hK; clear hK; refine hK _ ?_; clear hK) | (refine wSeq fun K hK => ?_) | ((first | refine wReg ?_ | refine wDrwQ rfl (by kernel_rfl) ?_ | refine wDrwI ?_ | refine wDrw (by kernel_rfl) ?_); simp only [List.map_cons, List.map_nil, strip]) | ((first | refine wIs fun K hK => ?_ | refine wOs fun K hK => ?_ | refine wQs fun K hK => ?_ | refine CallK_plain ?_ | refine CallQ_plain ?_ | refine CallR_plain ?_ | refine wCond ?_); simp) | (refine wIn ?_; refine And.intro (by kernel_rfl) ?_; try simp only [thenA_n]) | (first | refine wBlock ?_ | refine wScope ?_) | ((first | refine wRet ?_ | refine wExit ?_ | refine wSkip ?_); try simp) | ((first | refine wLabel ?_ | refine wOn ?_ | refine wQn ?_); try simp only [thenA_n])
 refine wLoop (fun N st => ∃ k, k + N = rows.length /\ st.s 2 = .ptr 2 0 /\ st.s 3 = .ptr 3 0 /\ st.b 2 = some (.box 49 [.p (I e), .p (I n), .p (I kd), .p (.sl 4 rows)]) /\ st.b 3 = some (.box 49 [.p (I e), .p (I n), .p (I kd), .p (.sl 4 rows)]) /\ st.s 29 = .p (I rows.length) /\ st.s 30 = .p (I k)) rows.length ⟨0, by simp⟩ fun K N st hL ⟨k, hk, g2, g3, b2, b3, g12, g13⟩ => ?_
 by_cases hlt : k < rows.length
 ·have hlt' : (k : Int) < rows.length := by omega
  have hw := wrapS k _ hlt (by omega)
  have he : rows[k]? = some rows[k] := List.getElem?_eq_getElem hlt
  have hok := ho _ (List.getElem_mem hlt)
  generalize hQ : rows[k] = r at *
  obtain ⟨x0, x1, x2, x3, rfl, -⟩ := fMb_sh hok
  repeat' first | (refine hK _ ?_; clear hK) | (refine hK _ _ ?_; clear hK) | (clear hK; refine hK _ ?_; clear hK) | (clear hK; clear hK; refine hK _ ?_; clear hK) | (clear hK; clear hK; clear hK; refine hK _ ?_; clear hK) | (clear hK; clear hK; clear hK; clear hK; refine hK _ ?_; clear hK) | (refine wSeq fun K hK => ?_) | ((first | refine wReg ?_ | refine wDrwQ rfl (by kernel_rfl) ?_ | refine wDrwI ?_ | refine wDrw (by kernel_rfl) ?_); simp only [List.map_cons, List.map_nil, strip]) | ((first | refine wIs fun K hK => ?_ | refine wOs fun K hK => ?_ | refine wQs fun K hK => ?_ | refine CallK_plain ?_ | refine CallQ_plain ?_ | refine CallR_plain ?_ | refine wCond ?_); simp [g2, g3, b2, b3, g12, g13, hlt, hlt', hw, he, hQ]) | (refine wIn ?_; refine And.intro (by kernel_rfl) ?_; try simp only [thenA_n]) | (first | refine wBlock ?_ | refine wScope ?_) | ((first | refine wRet ?_ | refine wExit ?_ | refine wSkip ?_); try simp) | ((first | refine wLabel ?_ | refine wOn ?_ | refine wQn ?_); try simp only [thenA_n])
  refine hL _ (N - 1) (by omega) ⟨k + 1, by omega, ?_⟩
  simp [g2, g3, b2, b3, g12, g13, hw]
 ·have hlt' : ¬ (k : Int) < rows.length := by omega
  repeat' first | (refine hK _ ?_; clear hK) | (refine hK _ _ ?_; clear hK) | (clear hK; refine hK _ ?_; clear hK) | (clear hK; clear hK; refine hK _ ?_; clear hK) | (clear hK; clear hK; clear hK; refine hK _ ?_; clear hK) | (clear hK; clear hK; clear hK; clear hK; refine hK _ ?_; clear hK) | (refine wSeq fun K hK => ?_) | ((first | refine wReg ?_ | refine wDrwQ rfl (by kernel_rfl) ?_ | refine wDrwI ?_ | refine wDrw (by kernel_rfl) ?_); simp only [List.map_cons, List.map_nil, strip]) | ((first | refine wIs fun K hK => ?_ | refine wOs fun K hK => ?_ | refine wQs fun K hK => ?_ | refine CallK_plain ?_ | refine CallQ_plain ?_ | refine CallR_plain ?_ | refine wCond ?_); simp [g2, g3, b2, b3, g12, g13, hlt, hlt']) | (refine wIn ?_; refine And.intro (by kernel_rfl) ?_; try simp only [thenA_n]) | (first | refine wBlock ?_ | refine wScope ?_) | ((first | refine wRet ?_ | refine wExit ?_ | refine wSkip ?_); try simp) | ((first | refine wLabel ?_ | refine wOn ?_ | refine wQn ?_); try simp only [thenA_n])
  all_goals apply hr
  all_goals simp [Tryz.f39]
set_option maxHeartbeats 4000000 in
theorem selfTx (cs : List PV) (hk : fTx.ok cs) : ACon Tryz.prog 21 [vOf cs, vOf cs] (.p (B true)) := by
 obtain ⟨e, n, s, x, er, b, ma, rows, rfl, -, -, -, -, -, -, k2⟩ := fTx_sh hk
 obtain ⟨hl, ho⟩ := fl_ok k2
 simp only [vOf2]
 refine wBody Tryz.tab Tryz.mixed Tryz.func21 rfl rfl Tryz.ntmps21 (by simp) (by simp) fun Q hr hn => ?_
 repeat' first | (refine hK _ ?_; clear hK) | (refine hK _ _ ?_; clear hK) | (clear hK; refine hK _ ?_; clear hK) | (clear hK; clear hK; refine hK _ ?_; clear hK) | (clear hK; clear hK; clear hK; refine hK _ ?_; clear hK) | (clear hK; clear hK; clear hK; clear hK; refine hK _ ?_; clear hK) | (refine wSeq fun K hK => ?_) | ((first | refine wReg ?_ | refine wDrwQ rfl (by kernel_rfl) ?_ | refine wDrwI ?_ | refine wDrw (by kernel_rfl) ?_); simp only [List.map_cons, List.map_nil, strip]) | ((first | refine wIs fun K hK => ?_ | refine wOs fun K hK => ?_ | refine wQs fun K hK => ?_ | refine CallK_plain ?_ | refine CallQ_plain ?_ | refine CallR_plain ?_ | refine wCond ?_); simp) | (refine wIn ?_; refine And.intro (by kernel_rfl) ?_; try simp only [thenA_n]) | (first | refine wBlock ?_ | refine wScope ?_) | ((first | refine wRet ?_ | refine wExit ?_ | refine wSkip ?_); try simp) | ((first | refine wLabel ?_ | refine wOn ?_ | refine wQn ?_); try simp only [thenA_n])
 refine wLoop (fun N st => ∃ k, k + N = rows.length /\ st.s 2 = .ptr 2 0 /\ st.s 3 = .ptr 3 0 /\ st.b 2 = some (.box 45 [.p (I e), .p (I n), .p (I s), .p (I x), .p (I er), .p (I b), .p (SB ma), .p (.sl 11 rows)]) /\ st.b 3 = some (.box 45 [.p (I e), .p (I n), .p (I s), .p (I x), .p (I er), .p (I b), .p (SB ma), .p (.sl 11 rows)]) /\ st.s 59 = .p (I rows.length) /\ st.s 60 = .p (I k)) rows.length ⟨0, by simp⟩ fun K N st hL ⟨k, hk, g2, g3, b2, b3, g12, g13⟩ => ?_
 by_cases hlt : k < rows.length
 ·have hlt' : (k : Int) < rows.length := by omega
  have hw := wrapS k _ hlt (by omega)
  have he : rows[k]? = some rows[k] := List.getElem?_eq_getElem hlt
  have hok := ho _ (List.getElem_mem hlt)
  generalize hQ : rows[k] = r at *
  obtain ⟨x0, x1, x2, x3, x4, x5, x6, x7, x8, x9, x10, rfl, -, -, -, hc⟩ := fPt_sh hok
  have c := selfCf _ hc
  simp only [vOf2] at c
  repeat' first | (refine hK _ ?_; clear hK) | (refine hK _ _ ?_; clear hK) | (clear hK; refine hK _ ?_; clear hK) | (clear hK; clear hK; refine hK _ ?_; clear hK) | (clear hK; clear hK; clear hK; refine hK _ ?_; clear hK) | (clear hK; clear hK; clear hK; clear hK; refine hK _ ?_; clear hK) | (refine wSeq fun K hK => ?_) | ((first | refine wReg ?_ | refine wDrwQ rfl (by kernel_rfl) ?_ | refine wDrwI ?_ | refine wDrw (by kernel_rfl) ?_); simp only [List.map_cons, List.map_nil, strip]) | ((first | refine wIs fun K hK => ?_ | refine wOs fun K hK => ?_ | refine wQs fun K hK => ?_ | refine CallK_plain ?_ | refine CallQ_plain ?_ | refine CallR_plain ?_ | refine wCond ?_); simp [g2, g3, b2, b3, g12, g13, hlt, hlt', hw, he, hQ]) | (refine wIn ?_; refine And.intro (by kernel_rfl) ?_; try simp only [thenA_n]) | (first | refine wBlock ?_ | refine wScope ?_) | ((first | refine wRet ?_ | refine wExit ?_ | refine wSkip ?_); try simp) | ((first | refine wLabel ?_ | refine wOn ?_ | refine wQn ?_); try simp only [thenA_n]) | (refine CallE.pure (c) rfl ?_) | (refine CallE.lent (c) rfl ?_) | (refine CallF.pure (c) rfl ?_) | (refine CallF.lent (c) rfl ?_) | (refine CallE.own (c) ?_) | (refine CallH.pure (c) rfl ?_) | (refine CallH.lent (c) rfl ?_) | (refine CallH.own (c) ?_)
  refine hL _ (N - 1) (by omega) ⟨k + 1, by omega, ?_⟩
  simp [g2, g3, b2, b3, g12, g13, hw]
 ·have hlt' : ¬ (k : Int) < rows.length := by omega
  repeat' first | (refine hK _ ?_; clear hK) | (refine hK _ _ ?_; clear hK) | (clear hK; refine hK _ ?_; clear hK) | (clear hK; clear hK; refine hK _ ?_; clear hK) | (clear hK; clear hK; clear hK; refine hK _ ?_; clear hK) | (clear hK; clear hK; clear hK; clear hK; refine hK _ ?_; clear hK) | (refine wSeq fun K hK => ?_) | ((first | refine wReg ?_ | refine wDrwQ rfl (by kernel_rfl) ?_ | refine wDrwI ?_ | refine wDrw (by kernel_rfl) ?_); simp only [List.map_cons, List.map_nil, strip]) | ((first | refine wIs fun K hK => ?_ | refine wOs fun K hK => ?_ | refine wQs fun K hK => ?_ | refine CallK_plain ?_ | refine CallQ_plain ?_ | refine CallR_plain ?_ | refine wCond ?_); simp [g2, g3, b2, b3, g12, g13, hlt, hlt']) | (refine wIn ?_; refine And.intro (by kernel_rfl) ?_; try simp only [thenA_n]) | (first | refine wBlock ?_ | refine wScope ?_) | ((first | refine wRet ?_ | refine wExit ?_ | refine wSkip ?_); try simp) | ((first | refine wLabel ?_ | refine wOn ?_ | refine wQn ?_); try simp only [thenA_n])
  all_goals apply hr
  all_goals simp [Tryz.f21]
set_option maxHeartbeats 4000000 in
theorem selfTxs (rows : List (List PV)) (ho : ∀ r ∈ rows, fTx.ok r) (hl : rows.length <= 1000000000) : ACon Tryz.prog 12 [.p (.sl 8 rows), .p (.sl 8 rows)] (.p (B true)) := by
 refine wBody Tryz.tab Tryz.mixed Tryz.func12 rfl rfl Tryz.ntmps12 (by simp) (by simp) fun Q hr hn => ?_
 repeat' first | (refine hK _ ?_; clear hK) | (refine hK _ _ ?_; clear hK) | (clear hK; refine hK _ ?_; clear hK) | (clear hK; clear hK; refine hK _ ?_; clear hK) | (clear hK; clear hK; clear hK; refine hK _ ?_; clear hK) | (clear hK; clear hK; clear hK; clear hK; refine hK _ ?_; clear hK) | (refine wSeq fun K hK => ?_) | ((first | refine wReg ?_ | refine wDrwQ rfl (by kernel_rfl) ?_ | refine wDrwI ?_ | refine wDrw (by kernel_rfl) ?_); simp only [List.map_cons, List.map_nil, strip]) | ((first | refine wIs fun K hK => ?_ | refine wOs fun K hK => ?_ | refine wQs fun K hK => ?_ | refine CallK_plain ?_ | refine CallQ_plain ?_ | refine CallR_plain ?_ | refine wCond ?_); simp) | (refine wIn ?_; refine And.intro (by kernel_rfl) ?_; try simp only [thenA_n]) | (first | refine wBlock ?_ | refine wScope ?_) | ((first | refine wRet ?_ | refine wExit ?_ | refine wSkip ?_); try simp) | ((first | refine wLabel ?_ | refine wOn ?_ | refine wQn ?_); try simp only [thenA_n])
 refine wLoop (fun N st => ∃ k, k + N = rows.length /\ st.s 0 = .p (.sl 8 rows) /\ st.s 1 = .p (.sl 8 rows) /\ st.s 12 = .p (I rows.length) /\ st.s 13 = .p (I k)) rows.length ⟨0, by simp⟩ fun K N st hL ⟨k, hk, g0, g1, g12, g13⟩ => ?_
 by_cases hlt : k < rows.length
 ·have hlt' : (k : Int) < rows.length := by omega
  have hw := wrapS k _ hlt (by omega)
  have he : rows[k]? = some rows[k] := List.getElem?_eq_getElem hlt
  have hok := ho _ (List.getElem_mem hlt)
  have c := selfTx rows[k] hok
  generalize hQ : rows[k] = r at *
  obtain ⟨x0, x1, x2, x3, x4, x5, ma, ps, rfl, -⟩ := fTx_sh hok
  simp only [vOf2] at c
  repeat' first | (refine hK _ ?_; clear hK) | (refine hK _ _ ?_; clear hK) | (clear hK; refine hK _ ?_; clear hK) | (clear hK; clear hK; refine hK _ ?_; clear hK) | (clear hK; clear hK; clear hK; refine hK _ ?_; clear hK) | (clear hK; clear hK; clear hK; clear hK; refine hK _ ?_; clear hK) | (refine wSeq fun K hK => ?_) | ((first | refine wReg ?_ | refine wDrwQ rfl (by kernel_rfl) ?_ | refine wDrwI ?_ | refine wDrw (by kernel_rfl) ?_); simp only [List.map_cons, List.map_nil, strip]) | ((first | refine wIs fun K hK => ?_ | refine wOs fun K hK => ?_ | refine wQs fun K hK => ?_ | refine CallK_plain ?_ | refine CallQ_plain ?_ | refine CallR_plain ?_ | refine wCond ?_); simp [g0, g1, g12, g13, hlt, hlt', hw, he, hQ]) | (refine wIn ?_; refine And.intro (by kernel_rfl) ?_; try simp only [thenA_n]) | (first | refine wBlock ?_ | refine wScope ?_) | ((first | refine wRet ?_ | refine wExit ?_ | refine wSkip ?_); try simp) | ((first | refine wLabel ?_ | refine wOn ?_ | refine wQn ?_); try simp only [thenA_n]) | (refine CallE.pure (c) rfl ?_) | (refine CallE.lent (c) rfl ?_) | (refine CallF.pure (c) rfl ?_) | (refine CallF.lent (c) rfl ?_) | (refine CallE.own (c) ?_) | (refine CallH.pure (c) rfl ?_) | (refine CallH.lent (c) rfl ?_) | (refine CallH.own (c) ?_)
  refine hL _ (N - 1) (by omega) ⟨k + 1, by omega, ?_⟩
  simp [g0, g1, g12, g13, hw]
 ·have hlt' : ¬ (k : Int) < rows.length := by omega
  repeat' first | (refine hK _ ?_; clear hK) | (refine hK _ _ ?_; clear hK) | (clear hK; refine hK _ ?_; clear hK) | (clear hK; clear hK; refine hK _ ?_; clear hK) | (clear hK; clear hK; clear hK; refine hK _ ?_; clear hK) | (clear hK; clear hK; clear hK; clear hK; refine hK _ ?_; clear hK) | (refine wSeq fun K hK => ?_) | ((first | refine wReg ?_ | refine wDrwQ rfl (by kernel_rfl) ?_ | refine wDrwI ?_ | refine wDrw (by kernel_rfl) ?_); simp only [List.map_cons, List.map_nil, strip]) | ((first | refine wIs fun K hK => ?_ | refine wOs fun K hK => ?_ | refine wQs fun K hK => ?_ | refine CallK_plain ?_ | refine CallQ_plain ?_ | refine CallR_plain ?_ | refine wCond ?_); simp [g0, g1, g12, g13, hlt, hlt']) | (refine wIn ?_; refine And.intro (by kernel_rfl) ?_; try simp only [thenA_n]) | (first | refine wBlock ?_ | refine wScope ?_) | ((first | refine wRet ?_ | refine wExit ?_ | refine wSkip ?_); try simp) | ((first | refine wLabel ?_ | refine wOn ?_ | refine wQn ?_); try simp only [thenA_n])
  all_goals apply hr
  all_goals simp [Tryz.f12]
def lenP : PV -> Nat
 | .sl _ l => l.length
 | .v (.string s) => s.data.toList.length
 | _ => 0
@[simp] theorem lenP_sl (c : Nat) (l : List (List PV)) : lenP (.sl c l) = l.length := rfl
@[simp] theorem lenP_SB (l : List UInt8) : lenP (SB l) = l.length := by show (bs l).data.toList.length = _; rw [bs_list]
def wgPt : List PV -> Nat
 | [_, p, d, _, _, _, _, _, _, _, m] => lenP m + (lenP p + lenP d) / 30
 | _ => 0
def rowsP : PV -> List (List PV)
 | .sl _ l => l
 | _ => []
@[simp] theorem rowsP_sl (c : Nat) (l : List (List PV)) : rowsP (.sl c l) = l := rfl
def wgTx : List PV -> Nat
 | [_, _, _, _, _, _, m, ps] => 1 + lenP ps + lenP m / 30 + ((rowsP ps).map wgPt).sum
 | _ => 0
def nPs : List PV -> Nat
 | [_, _, _, _, _, _, _, ps] => lenP ps
 | _ => 0
theorem sum_snoc {α : Type} (f : α -> Nat) {l : List α} {k : Nat} (h : k < l.length) : ((l.take (k + 1)).map f).sum = ((l.take k).map f).sum + f l[k] := by
 rw [List.take_succ_eq_append_getElem h, List.map_append, List.sum_append]; simp
theorem sum_le {α : Type} {f g : α -> Nat} {l : List α} (h : ∀ x ∈ l, f x <= g x) : (l.map f).sum <= (l.map g).sum := by
 induction l with
 | nil => simp
 | cons x l ih =>
  have := h x List.mem_cons_self
  have := ih fun y hy => h y (List.mem_cons_of_mem _ hy)
  simp only [List.map_cons, List.sum_cons]; omega
theorem sum_const {α : Type} (c : Nat) (l : List α) : (l.map fun _ => c).sum = c * l.length := by
 induction l with
 | nil => simp
 | cons x l ih => simp only [List.map_cons, List.sum_cons, ih, List.length_cons, Nat.mul_succ]; omega
theorem sum_mul {α : Type} (c : Nat) (f : α -> Nat) (l : List α) : (l.map fun x => c * f x).sum = c * (l.map f).sum := by
 induction l with
 | nil => simp
 | cons x l ih => simp only [List.map_cons, List.sum_cons, ih, Nat.mul_add]
theorem sum_add {α : Type} (f g : α -> Nat) (l : List α) : (l.map fun x => f x + g x).sum = (l.map f).sum + (l.map g).sum := by
 induction l with
 | nil => simp
 | cons x l ih => simp only [List.map_cons, List.sum_cons, ih]; omega
theorem mem_sum {α : Type} (f : α -> Nat) {l : List α} {x : α} (h : x ∈ l) : f x <= (l.map f).sum := by
 induction l with
 | nil => cases h
 | cons y l ih =>
  simp only [List.map_cons, List.sum_cons]
  rcases List.mem_cons.1 h with rfl | h
  ·omega
  ·have := ih h; omega
theorem szMb (r : List PV) : fMb.sz r = 40 := rfl
theorem szl_const {f : Fo} {c : Nat} (h : ∀ r, f.sz r = c) (n : Nat) (rows : List (List PV)) : (fl n f).sz [.sl n rows] = 10 + c * rows.length := by
 rw [fl_sz, show f.sz = fun _ => c from funext h, sum_const]
theorem szPt_le {r : List PV} (h : fPt.ok r) : fPt.sz r <= 150 + 40 * wgPt r := by
 obtain ⟨k, p, d, v, kd, o, s, e, n, c, m, rfl, -⟩ := fPt_sh h
 show 10 + ((foS.sz [SB p] + (foS.sz [SB d] + (10 + (10 + 10)))) + (10 + ((10 + 10) + (10 + (fl 4 fMb).sz [.sl 4 m])))) <= 150 + 40 * (lenP (.sl 4 m) + (lenP (SB p) + lenP (SB d)) / 30)
 rw [szl_const szMb]
 simp only [foS_sz, lenP_SB, lenP_sl]; omega
def BdTx (r : List PV) : Prop := ∀ m ps, r[6]? = some m -> r[7]? = some ps -> lenP m <= 140737488355328 /\ lenP ps <= 140737488355328 /\ ∀ q ∈ rowsP ps, ∀ p d c, q[1]? = some p -> q[2]? = some d -> q[10]? = some c -> lenP p <= 140737488355328 /\ lenP d <= 140737488355328 /\ lenP c <= 4398046511104
def lls (ll : List (List (List PV))) : List (List PV) := ll.map fun x => [.sl 8 x]
@[simp] theorem lls_len (ll : List (List (List PV))) : (lls ll).length = ll.length := by simp [lls]
theorem lls_get {ll : List (List (List PV))} {k : Nat} (h : k < ll.length) : (lls ll)[k]? = some [.sl 8 ll[k]] := by simp [lls, h]
@[simp] theorem lls_getElem (ll : List (List (List PV))) (k : Nat) (h : k < (lls ll).length) : (lls ll)[k] = [.sl 8 (ll[k]'(by simpa using h))] := by simp [lls]
def wgL (x : List (List PV)) : Nat := (x.map wgTx).sum
def FL (ll : List (List (List PV))) (i : Nat) (n : Nat) (st : St) : Prop :=
 st.s 8 = .p (.sl 1 (lls ll)) /\ st.s 9 = .p (I ll.length) /\ st.s 10 = .p (I i) /\ st.s 3 = .p (I (n : Nat))
theorem wgPt_le {q : List PV} {z1 z2 : List UInt8} {z10 : List (List PV)} (h : wgPt q = z10.length + (z1.length + z2.length) / 30) (h1 : z1.length <= 140737488355328) (h2 : z2.length <= 140737488355328) (h3 : z10.length <= 4398046511104) : wgPt q <= 14000000000000 := by omega
set_option maxHeartbeats 8000000 in
theorem farP3 {Q : AExit -> St -> Prop} {st : St} (ll : List (List (List PV))) (i : Nat) (x : List (List PV)) (j : Nat) (x0 x1 x2 x3 x4 x5 : Int) (ma : List UInt8) (ps : List (List PV)) (he : x[j]? = some [I x0, I x1, I x2, I x3, I x4, I x5, SB ma, .sl 11 ps]) (n0 : Nat) (hn0 : n0 <= 2000000000000000000) (hl : ps.length <= 60) (ho : ∀ q ∈ ps, fPt.ok q)
 (hb : ∀ q ∈ ps, ∀ p d c, q[1]? = some p -> q[2]? = some d -> q[10]? = some c -> lenP p <= 140737488355328 /\ lenP d <= 140737488355328 /\ lenP c <= 4398046511104)
 (hex : ∀ st, FL ll i (n0 + (ps.map wgPt).sum) st -> st.s 5 = .p (.sl 8 x) -> st.s 6 = .p (I j) -> Q (.exit 4) st)
 (hF : FL ll i n0 st) (h5 : st.s 5 = .p (.sl 8 x)) (h6 : st.s 6 = .p (I j)) (h7 : st.s 7 = .p (I 0)) : WC Tryz.prog Tryz.T 101 (lp Tryz.f4 2) Q st := by
 obtain ⟨g8, g9, g10, g3⟩ := hF
 have hjl : j < x.length := (List.getElem?_eq_some_iff.1 he).1
 have hjl' : (j : Int) < x.length := by omega
 have heg : ∀ h, x[j]'h = [I x0, I x1, I x2, I x3, I x4, I x5, SB ma, .sl 11 ps] := fun h => by rw [List.getElem?_eq_getElem h] at he; exact Option.some.inj he
 refine wLoop (fun N st => ∃ k m, k + N = ps.length /\ m = n0 + ((ps.take k).map wgPt).sum /\ m <= n0 + k * 14000000000000 /\ FL ll i m st /\ st.s 5 = .p (.sl 8 x) /\ st.s 6 = .p (I j) /\ st.s 7 = .p (I k)) ps.length ⟨0, n0, by omega, by simp, by omega, ⟨g8, g9, g10, g3⟩, h5, h6, h7⟩ fun K N st hL ⟨k, m, hk, hm, hmb, ⟨g8, g9, g10, g3⟩, g5, g6, g7⟩ => ?_
 by_cases hlt : k < ps.length
 case neg =>
  have hlt' : ¬ (k : Int) < ps.length := by omega
  rw [List.take_of_length_le (by omega)] at hm
  subst hm
  repeat' first | (refine hK _ ?_; clear hK) | (refine hK _ _ ?_; clear hK) | (clear hK; refine hK _ ?_; clear hK) | (clear hK; clear hK; refine hK _ ?_; clear hK) | (clear hK; clear hK; clear hK; refine hK _ ?_; clear hK) | (clear hK; clear hK; clear hK; clear hK; refine hK _ ?_; clear hK) | (refine wSeq fun K hK => ?_) | ((first | refine wReg ?_ | refine wDrwQ rfl (by kernel_rfl) ?_ | refine wDrwI ?_ | refine wDrw (by kernel_rfl) ?_); simp only [List.map_cons, List.map_nil, strip]) | ((first | refine wIs fun K hK => ?_ | refine wOs fun K hK => ?_ | refine wQs fun K hK => ?_ | refine CallK_plain ?_ | refine CallQ_plain ?_ | refine CallR_plain ?_ | refine wCond ?_); simp [g8, g9, g10, g3, g5, g6, g7, he, hjl, hjl', heg, hlt, hlt']) | (refine wIn ?_; refine And.intro (by kernel_rfl) ?_; try simp only [thenA_n]) | (first | refine wBlock ?_ | refine wScope ?_) | ((first | refine wRet ?_ | refine wExit ?_ | refine wSkip ?_); try simp) | ((first | refine wLabel ?_ | refine wOn ?_ | refine wQn ?_); try simp only [thenA_n])
  all_goals refine hex _ ⟨?_, ?_, ?_, ?_⟩ ?_ ?_
  all_goals simp [g8, g9, g10, g3, g5, g6]
 have hlt' : (k : Int) < ps.length := by omega
 have hw := wrapS k _ hlt (by omega)
 have hep : ps[k]? = some ps[k] := List.getElem?_eq_getElem hlt
 have hsj := sum_snoc wgPt hlt
 have hok := ho _ (List.getElem_mem hlt)
 have hbd := hb _ (List.getElem_mem hlt)
 generalize hQ : ps[k] = q at *
 obtain ⟨z0, z1, z2, z3, z4, z5, z6, z7, z8, z9, z10, rfl, -⟩ := fPt_sh hok
 obtain ⟨l2, l3, l1⟩ := hbd _ _ _ rfl rfl rfl
 simp only [lenP_SB, lenP_sl] at l1 l2 l3
 have hwp : wgPt [I z0, SB z1, SB z2, I z3, I z4, I z5, I z6, I z7, I z8, I z9, .sl 4 z10] = z10.length + (z1.length + z2.length) / 30 := by simp [wgPt]
 have hwl := wgPt_le hwp l2 l3 l1
 rw [hwp] at hsj hwl
 obtain ⟨a30, ha30⟩ : ∃ a30 : Nat, a30 = (z1.length + z2.length) / 30 := ⟨_, rfl⟩
 rw [<- ha30] at hsj hwl
 obtain ⟨s12, hs12⟩ : ∃ s12 : Nat, s12 = z1.length + z2.length := ⟨_, rfl⟩
 have v0 : IntKind.i64.wrap ((z1.length : Int) + (z2.length : Int)) = (s12 : Int) := by rw [wrap_id (by omega) (by omega)]; omega
 have v1 : IntKind.i64.wrap ((s12 : Int) / 30) = (a30 : Int) := by rw [wrap_id (by omega) (by omega)]; omega
 obtain ⟨d2, hd2⟩ : ∃ d2 : Nat, d2 = z10.length + a30 := ⟨_, rfl⟩
 have v2 : IntKind.i64.wrap ((z10.length : Int) + (a30 : Int)) = (d2 : Int) := by rw [wrap_id (by omega) (by omega)]; omega
 obtain ⟨m2, hm2⟩ : ∃ m2 : Nat, m2 = m + d2 := ⟨_, rfl⟩
 have v3 : IntKind.i64.wrap ((m : Int) + (d2 : Int)) = (m2 : Int) := by rw [wrap_id (by omega) (by omega)]; omega
 repeat' first | (refine hK _ ?_; clear hK) | (refine hK _ _ ?_; clear hK) | (clear hK; refine hK _ ?_; clear hK) | (clear hK; clear hK; refine hK _ ?_; clear hK) | (clear hK; clear hK; clear hK; refine hK _ ?_; clear hK) | (clear hK; clear hK; clear hK; clear hK; refine hK _ ?_; clear hK) | (refine wSeq fun K hK => ?_) | ((first | refine wReg ?_ | refine wDrwQ rfl (by kernel_rfl) ?_ | refine wDrwI ?_ | refine wDrw (by kernel_rfl) ?_); simp only [List.map_cons, List.map_nil, strip]) | ((first | refine wIs fun K hK => ?_ | refine wOs fun K hK => ?_ | refine wQs fun K hK => ?_ | refine CallK_plain ?_ | refine CallQ_plain ?_ | refine CallR_plain ?_ | refine wCond ?_); simp [g8, g9, g10, g3, g5, g6, g7, he, hjl, hjl', heg, hlt, hlt', hw, hep, hQ, v0, v1, v2, v3]) | (refine wIn ?_; refine And.intro (by kernel_rfl) ?_; try simp only [thenA_n]) | (first | refine wBlock ?_ | refine wScope ?_) | ((first | refine wRet ?_ | refine wExit ?_ | refine wSkip ?_); try simp) | ((first | refine wLabel ?_ | refine wOn ?_ | refine wQn ?_); try simp only [thenA_n])
 refine hL _ (N - 1) (by omega) ⟨k + 1, m2, by omega, by rw [hsj]; omega, by omega, ⟨?_, ?_, ?_, ?_⟩, ?_, ?_, ?_⟩
 all_goals simp [g8, g9, g10, g3, g5, g6, g7, hw]
set_option maxHeartbeats 8000000 in
theorem farP2 {Q : AExit -> St -> Prop} {st : St} (ll : List (List (List PV))) (i : Nat) (x : List (List PV)) (n0 : Nat) (hn0 : n0 <= 1000000000000000000) (hl : x.length <= 60) (ho : ∀ r ∈ x, fTx.ok r) (hb : ∀ r ∈ x, BdTx r)
 (hret : ∀ st, (∃ r ∈ x, 60 < nPs r) -> st.s 2 = .p (B true) -> Q .ret st)
 (hex : ∀ st, (∀ r ∈ x, ¬ 60 < nPs r) -> FL ll i (n0 + wgL x) st -> wgL x <= x.length * 900000000000000 -> st.s 5 = .p (.sl 8 x) -> Q (.exit 2) st)
 (hF : FL ll i n0 st) (h5 : st.s 5 = .p (.sl 8 x)) (h6 : st.s 6 = .p (I 0)) : WC Tryz.prog Tryz.T 101 (lp Tryz.f4 1) Q st := by
 obtain ⟨g8, g9, g10, g3⟩ := hF
 refine wLoop (fun N st => ∃ k m, k + N = x.length /\ m = n0 + ((x.take k).map wgTx).sum /\ m <= n0 + k * 900000000000000 /\ (∀ r ∈ x.take k, ¬ 60 < nPs r) /\ FL ll i m st /\ st.s 5 = .p (.sl 8 x) /\ st.s 6 = .p (I k)) x.length ⟨0, n0, by omega, by simp, by omega, by simp, ⟨g8, g9, g10, g3⟩, h5, h6⟩ fun K N st hL ⟨k, m, hk, hm, hmb, hall, ⟨g8, g9, g10, g3⟩, g5, g6⟩ => ?_
 by_cases hlt : k < x.length
 case neg =>
  have hlt' : ¬ (k : Int) < x.length := by omega
  rw [List.take_of_length_le (by omega)] at hm hall
  have hW : wgL x <= x.length * 900000000000000 := by
   unfold wgL
   have hkx : k = x.length := by omega
   subst hkx
   omega
  change m = n0 + wgL x at hm
  subst hm
  repeat' first | (refine hK _ ?_; clear hK) | (refine hK _ _ ?_; clear hK) | (clear hK; refine hK _ ?_; clear hK) | (clear hK; clear hK; refine hK _ ?_; clear hK) | (clear hK; clear hK; clear hK; refine hK _ ?_; clear hK) | (clear hK; clear hK; clear hK; clear hK; refine hK _ ?_; clear hK) | (refine wSeq fun K hK => ?_) | ((first | refine wReg ?_ | refine wDrwQ rfl (by kernel_rfl) ?_ | refine wDrwI ?_ | refine wDrw (by kernel_rfl) ?_); simp only [List.map_cons, List.map_nil, strip]) | ((first | refine wIs fun K hK => ?_ | refine wOs fun K hK => ?_ | refine wQs fun K hK => ?_ | refine CallK_plain ?_ | refine CallQ_plain ?_ | refine CallR_plain ?_ | refine wCond ?_); simp [g8, g9, g10, g3, g5, g6, hlt, hlt']) | (refine wIn ?_; refine And.intro (by kernel_rfl) ?_; try simp only [thenA_n]) | (first | refine wBlock ?_ | refine wScope ?_) | ((first | refine wRet ?_ | refine wExit ?_ | refine wSkip ?_); try simp) | ((first | refine wLabel ?_ | refine wOn ?_ | refine wQn ?_); try simp only [thenA_n])
  all_goals refine hex _ hall ⟨?_, ?_, ?_, ?_⟩ hW ?_
  all_goals simp [g8, g9, g10, g3, g5, g6]
 have hlt' : (k : Int) < x.length := by omega
 have hw := wrapS k _ hlt (by omega)
 have he : x[k]? = some x[k] := List.getElem?_eq_getElem hlt
 have hsn := sum_snoc wgTx hlt
 have hmem := List.getElem_mem hlt
 have hok := ho _ hmem
 have hbd := hb _ hmem
 have htk : x.take (k + 1) = x.take k ++ [x[k]] := List.take_succ_eq_append_getElem hlt
 generalize hQ : x[k] = r at *
 obtain ⟨x0, x1, x2, x3, x4, x5, ma, ps, rfl, -, -, -, -, -, -, hp⟩ := fTx_sh hok
 obtain ⟨hpl, hpo⟩ := fl_ok hp
 obtain ⟨b1, b2, b3⟩ := hbd _ _ rfl rfl
 simp only [lenP_SB, lenP_sl, rowsP_sl] at b1 b2 b3
 have hnum : wgTx [I x0, I x1, I x2, I x3, I x4, I x5, SB ma, .sl 11 ps] = 1 + ps.length + ma.length / 30 + (ps.map wgPt).sum := by simp [wgTx]
 rw [hnum] at hsn
 have hnp : nPs [I x0, I x1, I x2, I x3, I x4, I x5, SB ma, .sl 11 ps] = ps.length := rfl
 obtain ⟨c30, hc30⟩ : ∃ c30 : Nat, c30 = ma.length / 30 := ⟨_, rfl⟩
 rw [<- hc30] at hsn
 have w1 : IntKind.i64.wrap ((ma.length : Int) / 30) = (c30 : Int) := by rw [wrap_id (by omega) (by omega)]; omega
 obtain ⟨d0, hd0⟩ : ∃ d0 : Nat, d0 = 1 + ps.length := ⟨_, rfl⟩
 have w0 : IntKind.i64.wrap (1 + (ps.length : Int)) = (d0 : Int) := by rw [wrap_id (by omega) (by omega)]; omega
 obtain ⟨d1, hd1⟩ : ∃ d1 : Nat, d1 = 1 + ps.length + c30 := ⟨_, rfl⟩
 have w2 : IntKind.i64.wrap ((d0 : Int) + (c30 : Int)) = (d1 : Int) := by rw [wrap_id (by omega) (by omega)]; omega
 obtain ⟨n1, hn1⟩ : ∃ n1 : Nat, n1 = m + d1 := ⟨_, rfl⟩
 have w3 : IntKind.i64.wrap ((m : Int) + (d1 : Int)) = (n1 : Int) := by rw [wrap_id (by omega) (by omega)]; omega
 by_cases hp60 : 60 < ps.length
 ·have hp60' : (60 : Int) < ps.length := by omega
  have hbad : ∃ r ∈ x, 60 < nPs r := ⟨_, hmem, by rw [hnp]; exact hp60⟩
  repeat' first | (refine hK _ ?_; clear hK) | (refine hK _ _ ?_; clear hK) | (clear hK; refine hK _ ?_; clear hK) | (clear hK; clear hK; refine hK _ ?_; clear hK) | (clear hK; clear hK; clear hK; refine hK _ ?_; clear hK) | (clear hK; clear hK; clear hK; clear hK; refine hK _ ?_; clear hK) | (refine wSeq fun K hK => ?_) | ((first | refine wReg ?_ | refine wDrwQ rfl (by kernel_rfl) ?_ | refine wDrwI ?_ | refine wDrw (by kernel_rfl) ?_); simp only [List.map_cons, List.map_nil, strip]) | ((first | refine wIs fun K hK => ?_ | refine wOs fun K hK => ?_ | refine wQs fun K hK => ?_ | refine CallK_plain ?_ | refine CallQ_plain ?_ | refine CallR_plain ?_ | refine wCond ?_); simp [g8, g9, g10, g3, g5, g6, hlt, hlt', hw, he, hQ, w0, w1, w2, w3, hp60, hp60']) | (refine wIn ?_; refine And.intro (by kernel_rfl) ?_; try simp only [thenA_n]) | (first | refine wBlock ?_ | refine wScope ?_) | ((first | refine wRet ?_ | refine wExit ?_ | refine wSkip ?_); try simp) | ((first | refine wLabel ?_ | refine wOn ?_ | refine wQn ?_); try simp only [thenA_n])
  try simp only [thenA_r, blockA_r]
  all_goals refine hret _ hbad ?_
  all_goals simp
 have hp60' : ¬ (60 : Int) < ps.length := by omega
 repeat' first | (refine hK _ ?_; clear hK) | (refine hK _ _ ?_; clear hK) | (clear hK; refine hK _ ?_; clear hK) | (clear hK; clear hK; refine hK _ ?_; clear hK) | (clear hK; clear hK; clear hK; refine hK _ ?_; clear hK) | (clear hK; clear hK; clear hK; clear hK; refine hK _ ?_; clear hK) | (refine wSeq fun K hK => ?_) | ((first | refine wReg ?_ | refine wDrwQ rfl (by kernel_rfl) ?_ | refine wDrwI ?_ | refine wDrw (by kernel_rfl) ?_); simp only [List.map_cons, List.map_nil, strip]) | ((first | refine wIs fun K hK => ?_ | refine wOs fun K hK => ?_ | refine wQs fun K hK => ?_ | refine CallK_plain ?_ | refine CallQ_plain ?_ | refine CallR_plain ?_ | refine wCond ?_); simp [g8, g9, g10, g3, g5, g6, hlt, hlt', hw, he, hQ, w0, w1, w2, w3, hp60, hp60']) | (refine wIn ?_; refine And.intro (by kernel_rfl) ?_; try simp only [thenA_n]) | (first | refine wBlock ?_ | refine wScope ?_) | ((first | refine wRet ?_ | refine wExit ?_ | refine wSkip ?_); try simp) | ((first | refine wLabel ?_ | refine wOn ?_ | refine wQn ?_); try simp only [thenA_n])
 refine farP3 ll i x k x0 x1 x2 x3 x4 x5 ma ps he n1 (by omega) (by omega) hpo b3 ?_ ⟨?_, ?_, ?_, ?_⟩ ?_ ?_ ?_
 rotate_left 1
 any_goals (simp [g8, g9, g10, g3, g5, g6]; done)
 have hps : (ps.map wgPt).sum <= 14000000000000 * ps.length := by
  rw [<- sum_const]
  refine sum_le fun q hq => ?_
  obtain ⟨z0, z1, z2, z3, z4, z5, z6, z7, z8, z9, z10, rfl, -⟩ := fPt_sh (hpo q hq)
  obtain ⟨l2, l3, l1⟩ := b3 _ hq _ _ _ rfl rfl rfl
  simp only [lenP_SB, lenP_sl] at l1 l2 l3
  exact wgPt_le (z1 := z1) (z2 := z2) (z10 := z10) (by simp [wgPt]) l2 l3 l1
 clear g8 g9 g10 g3 g5 g6
 rintro st5 ⟨g8, g9, g10, g3⟩ g5 g6
 simp only [blockA_e, if_true, thenA_n]
 obtain ⟨n5, f8⟩ : ∃ a : Nat, a = n1 + (ps.map wgPt).sum := ⟨_, rfl⟩
 rw [<- f8] at g3
 repeat' first | (refine hK _ ?_; clear hK) | (refine hK _ _ ?_; clear hK) | (clear hK; refine hK _ ?_; clear hK) | (clear hK; clear hK; refine hK _ ?_; clear hK) | (clear hK; clear hK; clear hK; refine hK _ ?_; clear hK) | (clear hK; clear hK; clear hK; clear hK; refine hK _ ?_; clear hK) | (refine wSeq fun K hK => ?_) | ((first | refine wReg ?_ | refine wDrwQ rfl (by kernel_rfl) ?_ | refine wDrwI ?_ | refine wDrw (by kernel_rfl) ?_); simp only [List.map_cons, List.map_nil, strip]) | ((first | refine wIs fun K hK => ?_ | refine wOs fun K hK => ?_ | refine wQs fun K hK => ?_ | refine CallK_plain ?_ | refine CallQ_plain ?_ | refine CallR_plain ?_ | refine wCond ?_); simp [g8, g9, g10, g3, g5, g6, hw]) | (refine wIn ?_; refine And.intro (by kernel_rfl) ?_; try simp only [thenA_n]) | (first | refine wBlock ?_ | refine wScope ?_) | ((first | refine wRet ?_ | refine wExit ?_ | refine wSkip ?_); try simp) | ((first | refine wLabel ?_ | refine wOn ?_ | refine wQn ?_); try simp only [thenA_n])
 refine hL _ (N - 1) (by omega) ⟨k + 1, n5, by omega, by rw [hsn]; omega, by omega, fun r hr2 => ?_, ⟨?_, ?_, ?_, ?_⟩, ?_, ?_⟩
 ·rw [htk] at hr2
  rcases List.mem_append.1 hr2 with h | h
  ·exact hall r h
  ·rw [List.mem_singleton] at h; subst h; rw [hnp]; exact hp60
 all_goals simp [g8, g9, g10, g3, g5, g6, hw]
def farL (ll : List (List (List PV))) : Prop := (∃ x ∈ ll, 50 < x.length \/ ∃ r ∈ x, 60 < nPs r) \/ 150 < (ll.map wgL).sum
set_option maxHeartbeats 8000000 in
theorem far14_con (ll : List (List (List PV))) (hll : ll.length <= 10) (ho : ∀ x ∈ ll, ∀ r ∈ x, fTx.ok r) (hb : ∀ x ∈ ll, ∀ r ∈ x, BdTx r) : ∃ D : Bool, ACon Tryz.prog 4 [.p (.sl 1 (lls ll))] (.p (B D)) /\ (D = false -> ¬ farL ll) := by
 suffices hall : ∀ D : Bool, (D = true ↔ farL ll) -> ACon Tryz.prog 4 [.p (.sl 1 (lls ll))] (.p (B D)) by
  by_cases h : farL ll
  ·exact ⟨true, hall true (by simp [h]), fun h => by cases h⟩
  ·exact ⟨false, hall false (by simp [h]), fun _ => h⟩
 intro D hD
 refine wBody Tryz.tab Tryz.mixed Tryz.func4 rfl rfl Tryz.ntmps4 (by simp) (by simp) fun Q hr hn => ?_
 repeat' first | (refine hK _ ?_; clear hK) | (refine hK _ _ ?_; clear hK) | (clear hK; refine hK _ ?_; clear hK) | (clear hK; clear hK; refine hK _ ?_; clear hK) | (clear hK; clear hK; clear hK; refine hK _ ?_; clear hK) | (clear hK; clear hK; clear hK; clear hK; refine hK _ ?_; clear hK) | (refine wSeq fun K hK => ?_) | ((first | refine wReg ?_ | refine wDrwQ rfl (by kernel_rfl) ?_ | refine wDrwI ?_ | refine wDrw (by kernel_rfl) ?_); simp only [List.map_cons, List.map_nil, strip]) | ((first | refine wIs fun K hK => ?_ | refine wOs fun K hK => ?_ | refine wQs fun K hK => ?_ | refine CallK_plain ?_ | refine CallQ_plain ?_ | refine CallR_plain ?_ | refine wCond ?_); simp) | (refine wIn ?_; refine And.intro (by kernel_rfl) ?_; try simp only [thenA_n]) | (first | refine wBlock ?_ | refine wScope ?_) | ((first | refine wRet ?_ | refine wExit ?_ | refine wSkip ?_); try simp) | ((first | refine wLabel ?_ | refine wOn ?_ | refine wQn ?_); try simp only [thenA_n])
 refine wLoop (fun N st => ∃ i n, i + N = ll.length /\ n = ((ll.take i).map wgL).sum /\ n <= i * 54000000000000000 /\ (∀ x ∈ ll.take i, x.length <= 50 /\ ∀ r ∈ x, ¬ 60 < nPs r) /\ FL ll i n st) ll.length ⟨0, 0, by simp [FL]⟩ fun K N st hL ⟨i, n, hi, hn', hnb, hall, ⟨g8, g9, g10, g3⟩⟩ => ?_
 by_cases hlt : i < ll.length
 case neg =>
  have hlt' : ¬ (i : Int) < ll.length := by omega
  rw [List.take_of_length_le (by omega)] at hn' hall
  have hR : farL ll ↔ 150 < n := by
   unfold farL; rw [hn']
   refine ⟨fun h => ?_, .inr⟩
   rcases h with ⟨x, hx, h⟩ | h
   ·obtain ⟨h1, h2⟩ := hall x hx
    rcases h with h | ⟨r, hr, h⟩
    ·omega
    ·exact absurd h (h2 r hr)
   ·exact h
  rw [hR] at hD
  by_cases h7 : 150 < n
  ·have h7' := eq_true (show (150 : Int) < (n : Int) by omega)
   rw [hD.2 h7] at hr
   repeat' first | (refine hK _ ?_; clear hK) | (refine hK _ _ ?_; clear hK) | (clear hK; refine hK _ ?_; clear hK) | (clear hK; clear hK; refine hK _ ?_; clear hK) | (clear hK; clear hK; clear hK; refine hK _ ?_; clear hK) | (clear hK; clear hK; clear hK; clear hK; refine hK _ ?_; clear hK) | (refine wSeq fun K hK => ?_) | ((first | refine wReg ?_ | refine wDrwQ rfl (by kernel_rfl) ?_ | refine wDrwI ?_ | refine wDrw (by kernel_rfl) ?_); simp only [List.map_cons, List.map_nil, strip]) | ((first | refine wIs fun K hK => ?_ | refine wOs fun K hK => ?_ | refine wQs fun K hK => ?_ | refine CallK_plain ?_ | refine CallQ_plain ?_ | refine CallR_plain ?_ | refine wCond ?_); simp [g8, g9, g10, g3, hlt, hlt', h7, h7']) | (refine wIn ?_; refine And.intro (by kernel_rfl) ?_; try simp only [thenA_n]) | (first | refine wBlock ?_ | refine wScope ?_) | ((first | refine wRet ?_ | refine wExit ?_ | refine wSkip ?_); try simp) | ((first | refine wLabel ?_ | refine wOn ?_ | refine wQn ?_); try simp only [thenA_n])
   all_goals apply hr
   all_goals simp [Tryz.f4, h7']
  ·have h7' := eq_false (show ¬ (150 : Int) < (n : Int) by omega)
   rw [show D = false from Bool.eq_false_iff.2 fun h => h7 (hD.1 h)] at hr
   repeat' first | (refine hK _ ?_; clear hK) | (refine hK _ _ ?_; clear hK) | (clear hK; refine hK _ ?_; clear hK) | (clear hK; clear hK; refine hK _ ?_; clear hK) | (clear hK; clear hK; clear hK; refine hK _ ?_; clear hK) | (clear hK; clear hK; clear hK; clear hK; refine hK _ ?_; clear hK) | (refine wSeq fun K hK => ?_) | ((first | refine wReg ?_ | refine wDrwQ rfl (by kernel_rfl) ?_ | refine wDrwI ?_ | refine wDrw (by kernel_rfl) ?_); simp only [List.map_cons, List.map_nil, strip]) | ((first | refine wIs fun K hK => ?_ | refine wOs fun K hK => ?_ | refine wQs fun K hK => ?_ | refine CallK_plain ?_ | refine CallQ_plain ?_ | refine CallR_plain ?_ | refine wCond ?_); simp [g8, g9, g10, g3, hlt, hlt', h7, h7']) | (refine wIn ?_; refine And.intro (by kernel_rfl) ?_; try simp only [thenA_n]) | (first | refine wBlock ?_ | refine wScope ?_) | ((first | refine wRet ?_ | refine wExit ?_ | refine wSkip ?_); try simp) | ((first | refine wLabel ?_ | refine wOn ?_ | refine wQn ?_); try simp only [thenA_n])
   all_goals apply hr
   all_goals simp [Tryz.f4, h7']
 have hlt' : (i : Int) < ll.length := by omega
 have hw := wrapS i _ hlt (by omega)
 have he := lls_get hlt
 have hsn := sum_snoc wgL hlt
 have hmem := List.getElem_mem hlt
 have hox := ho _ hmem
 have hbx := hb _ hmem
 have htk : ll.take (i + 1) = ll.take i ++ [ll[i]] := List.take_succ_eq_append_getElem hlt
 have hbad : (50 < ll[i].length \/ ∃ r ∈ ll[i], 60 < nPs r) -> D = true := fun h => hD.2 (.inl ⟨_, hmem, h⟩)
 generalize hQ : ll[i] = x at *
 by_cases h60 : 60 < x.length
 ·have h60' := eq_true (show (60 : Int) < (x.length : Int) by omega)
  rw [hbad (.inl (by omega))] at hr
  repeat' first | (refine hK _ ?_; clear hK) | (refine hK _ _ ?_; clear hK) | (clear hK; refine hK _ ?_; clear hK) | (clear hK; clear hK; refine hK _ ?_; clear hK) | (clear hK; clear hK; clear hK; refine hK _ ?_; clear hK) | (clear hK; clear hK; clear hK; clear hK; refine hK _ ?_; clear hK) | (refine wSeq fun K hK => ?_) | ((first | refine wReg ?_ | refine wDrwQ rfl (by kernel_rfl) ?_ | refine wDrwI ?_ | refine wDrw (by kernel_rfl) ?_); simp only [List.map_cons, List.map_nil, strip]) | ((first | refine wIs fun K hK => ?_ | refine wOs fun K hK => ?_ | refine wQs fun K hK => ?_ | refine CallK_plain ?_ | refine CallQ_plain ?_ | refine CallR_plain ?_ | refine wCond ?_); simp [g8, g9, g10, g3, hlt, hlt', he, hQ, h60, h60']) | (refine wIn ?_; refine And.intro (by kernel_rfl) ?_; try simp only [thenA_n]) | (first | refine wBlock ?_ | refine wScope ?_) | ((first | refine wRet ?_ | refine wExit ?_ | refine wSkip ?_); try simp) | ((first | refine wLabel ?_ | refine wOn ?_ | refine wQn ?_); try simp only [thenA_n])
  all_goals apply hr
  all_goals simp [Tryz.f4]
 have h60' := eq_false (show ¬ (60 : Int) < (x.length : Int) by omega)
 repeat' first | (refine hK _ ?_; clear hK) | (refine hK _ _ ?_; clear hK) | (clear hK; refine hK _ ?_; clear hK) | (clear hK; clear hK; refine hK _ ?_; clear hK) | (clear hK; clear hK; clear hK; refine hK _ ?_; clear hK) | (clear hK; clear hK; clear hK; clear hK; refine hK _ ?_; clear hK) | (refine wSeq fun K hK => ?_) | ((first | refine wReg ?_ | refine wDrwQ rfl (by kernel_rfl) ?_ | refine wDrwI ?_ | refine wDrw (by kernel_rfl) ?_); simp only [List.map_cons, List.map_nil, strip]) | ((first | refine wIs fun K hK => ?_ | refine wOs fun K hK => ?_ | refine wQs fun K hK => ?_ | refine CallK_plain ?_ | refine CallQ_plain ?_ | refine CallR_plain ?_ | refine wCond ?_); simp [g8, g9, g10, g3, hlt, hlt', he, hQ, h60, h60']) | (refine wIn ?_; refine And.intro (by kernel_rfl) ?_; try simp only [thenA_n]) | (first | refine wBlock ?_ | refine wScope ?_) | ((first | refine wRet ?_ | refine wExit ?_ | refine wSkip ?_); try simp) | ((first | refine wLabel ?_ | refine wOn ?_ | refine wQn ?_); try simp only [thenA_n])
 refine farP2 ll i x n (by omega) (by omega) hox hbx ?_ ?_ ⟨?_, ?_, ?_, ?_⟩ ?_ ?_
 rotate_left 2
 any_goals (simp [g8, g9, g10, g3]; done)
 ·intro st5 h2 g2
  rw [hbad (.inr h2)] at hr
  simp only [thenA_r, blockA_r]
  apply hr
  simp [Tryz.f4, g2]
 clear g8 g9 g10 g3
 rintro st5 h2 ⟨g8, g9, g10, g3⟩ hW g5
 simp only [blockA_e, if_true, thenA_n]
 obtain ⟨n5, f8⟩ : ∃ a : Nat, a = n + wgL x := ⟨_, rfl⟩
 rw [<- f8] at g3
 by_cases h50 : 50 < x.length
 ·have h50' := eq_true (show (50 : Int) < (x.length : Int) by omega)
  rw [hbad (.inl h50)] at hr
  repeat' first | (refine hK _ ?_; clear hK) | (refine hK _ _ ?_; clear hK) | (clear hK; refine hK _ ?_; clear hK) | (clear hK; clear hK; refine hK _ ?_; clear hK) | (clear hK; clear hK; clear hK; refine hK _ ?_; clear hK) | (clear hK; clear hK; clear hK; clear hK; refine hK _ ?_; clear hK) | (refine wSeq fun K hK => ?_) | ((first | refine wReg ?_ | refine wDrwQ rfl (by kernel_rfl) ?_ | refine wDrwI ?_ | refine wDrw (by kernel_rfl) ?_); simp only [List.map_cons, List.map_nil, strip]) | ((first | refine wIs fun K hK => ?_ | refine wOs fun K hK => ?_ | refine wQs fun K hK => ?_ | refine CallK_plain ?_ | refine CallQ_plain ?_ | refine CallR_plain ?_ | refine wCond ?_); simp [g8, g9, g10, g3, g5, hw, h50, h50']) | (refine wIn ?_; refine And.intro (by kernel_rfl) ?_; try simp only [thenA_n]) | (first | refine wBlock ?_ | refine wScope ?_) | ((first | refine wRet ?_ | refine wExit ?_ | refine wSkip ?_); try simp) | ((first | refine wLabel ?_ | refine wOn ?_ | refine wQn ?_); try simp only [thenA_n])
  all_goals apply hr
  all_goals simp [Tryz.f4]
 have h50' := eq_false (show ¬ (50 : Int) < (x.length : Int) by omega)
 repeat' first | (refine hK _ ?_; clear hK) | (refine hK _ _ ?_; clear hK) | (clear hK; refine hK _ ?_; clear hK) | (clear hK; clear hK; refine hK _ ?_; clear hK) | (clear hK; clear hK; clear hK; refine hK _ ?_; clear hK) | (clear hK; clear hK; clear hK; clear hK; refine hK _ ?_; clear hK) | (refine wSeq fun K hK => ?_) | ((first | refine wReg ?_ | refine wDrwQ rfl (by kernel_rfl) ?_ | refine wDrwI ?_ | refine wDrw (by kernel_rfl) ?_); simp only [List.map_cons, List.map_nil, strip]) | ((first | refine wIs fun K hK => ?_ | refine wOs fun K hK => ?_ | refine wQs fun K hK => ?_ | refine CallK_plain ?_ | refine CallQ_plain ?_ | refine CallR_plain ?_ | refine wCond ?_); simp [g8, g9, g10, g3, g5, hw, h50, h50']) | (refine wIn ?_; refine And.intro (by kernel_rfl) ?_; try simp only [thenA_n]) | (first | refine wBlock ?_ | refine wScope ?_) | ((first | refine wRet ?_ | refine wExit ?_ | refine wSkip ?_); try simp) | ((first | refine wLabel ?_ | refine wOn ?_ | refine wQn ?_); try simp only [thenA_n])
 refine hL _ (N - 1) (by omega) ⟨i + 1, n5, by omega, by rw [hsn]; omega, by omega, fun y hy => ?_, ⟨?_, ?_, ?_, ?_⟩⟩
 ·rw [htk] at hy
  rcases List.mem_append.1 hy with h | h
  ·exact hall y h
  ·rw [List.mem_singleton] at h; subst h; exact ⟨by omega, h2⟩
 all_goals simp [g8, g9, g10, g3, hw]
end Go.Proofs.YtbeofcbehhljdaaGreatDoor
