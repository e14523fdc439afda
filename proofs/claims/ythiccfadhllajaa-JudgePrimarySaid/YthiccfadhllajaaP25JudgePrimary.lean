/- Texts that the proof needs: XK ZC ZA HF XA HM. -/
import Derived.Test.YthiccfadhllajaaP24JudgePrimary
import Derived.Test.YthiccfadhllajaaP23JudgePrimary
import Derived.Test.YthiccfadhllajaaP15JudgePrimary
import Derived.Test.YthiccfadhllajaaP19JudgePrimary
import Derived.Test.YthiccfadhllajaaP17JudgePrimary
import Derived.Test.YthiccfadhllajaaP20JudgePrimary
import Derived.WalkKit
namespace Go.Proofs.Ythiccfadhllajaa
set_option linter.unusedSimpArgs false
set_option linter.unusedVariables false
open Go Go.Av
attribute [local irreducible] Go.Av.CallK Go.Av.CallE Go.Av.CallQ Go.Av.CallF Go.Av.CallR Go.Av.CallH Go.Av.Con
def txns (l : List Tx) : List (List PV) := l.map Tx.cells
@[simp] theorem txns_len (l : List Tx) : (txns l).length = l.length := by simp [txns]
@[simp] theorem txns_getElem (l : List Tx) (k : Nat) (h : k < (txns l).length) : (txns l)[k] = [I (l[k]'(by simpa using h)).e, I (l[k]'(by simpa using h)).n, I (l[k]'(by simpa using h)).s, I (l[k]'(by simpa using h)).x, I (l[k]'(by simpa using h)).r, I (l[k]'(by simpa using h)).b, SB (l[k]'(by simpa using h)).m, .sl 11 (pts (l[k]'(by simpa using h)).ps)] := by simp [txns, Tx.cells]
theorem txns_get {l : List Tx} {k : Nat} (h : k < l.length) : (txns l)[k]? = some [I l[k].e, I l[k].n, I l[k].s, I l[k].x, I l[k].r, I l[k].b, SB l[k].m, .sl 11 (pts l[k].ps)] := by simp [txns, h, Tx.cells]
theorem isNaN_con (n : Int) : ACon Try.prog 40 [.p (I n)] (.p (B false)) := by
 refine wBody Try.tab Try.mixed Try.func40 rfl rfl Try.ntmps40 (by simp) (by simp) fun Q hr hn => ?_
 repeat' first | (refine hK _ ?_; clear hK) | (refine hK _ _ ?_; clear hK) | (clear hK; refine hK _ ?_; clear hK) | (clear hK; clear hK; refine hK _ ?_; clear hK) | (clear hK; clear hK; clear hK; refine hK _ ?_; clear hK) | (clear hK; clear hK; clear hK; clear hK; refine hK _ ?_; clear hK) | (refine wSeq fun K hK => ?_) | ((first | refine wReg ?_ | refine wDrwQ rfl (by kernel_rfl) ?_ | refine wDrwI ?_ | refine wDrw (by kernel_rfl) ?_); simp only [List.map_cons, List.map_nil, strip]) | ((first | refine wIs fun K hK => ?_ | refine wOs fun K hK => ?_ | refine wQs fun K hK => ?_ | refine CallK_plain ?_ | refine CallQ_plain ?_ | refine CallR_plain ?_ | refine wCond ?_); simp) | (refine wIn ?_; refine And.intro (by kernel_rfl) ?_; try simp only [thenA_n]) | (first | refine wBlock ?_ | refine wScope ?_) | ((first | refine wRet ?_ | refine wExit ?_ | refine wSkip ?_); try simp) | ((first | refine wLabel ?_ | refine wOn ?_ | refine wQn ?_); try simp only [thenA_n])
 apply hr
 simp [Try.f40]
def cmpInt (a b : Int) : Int := if a < b then -1 else if b < a then 1 else 0
theorem compare_con (a b : Int) : ACon Try.prog 30 [.p (I a), .p (I b)] (.p (I (cmpInt a b))) := by
 refine wBody Try.tab Try.mixed Try.func30 rfl rfl Try.ntmps30 (by simp) (by simp) fun Q hr hn => ?_
 repeat' first | (refine hK _ ?_; clear hK) | (refine hK _ _ ?_; clear hK) | (clear hK; refine hK _ ?_; clear hK) | (clear hK; clear hK; refine hK _ ?_; clear hK) | (clear hK; clear hK; clear hK; refine hK _ ?_; clear hK) | (clear hK; clear hK; clear hK; clear hK; refine hK _ ?_; clear hK) | (refine wSeq fun K hK => ?_) | ((first | refine wReg ?_ | refine wDrwQ rfl (by kernel_rfl) ?_ | refine wDrwI ?_ | refine wDrw (by kernel_rfl) ?_); simp only [List.map_cons, List.map_nil, strip]) | ((first | refine wIs fun K hK => ?_ | refine wOs fun K hK => ?_ | refine wQs fun K hK => ?_ | refine CallK_plain ?_ | refine CallQ_plain ?_ | refine CallR_plain ?_ | refine wCond ?_); simp) | (refine wIn ?_; refine And.intro (by kernel_rfl) ?_; try simp only [thenA_n]) | (first | refine wBlock ?_ | refine wScope ?_) | ((first | refine wRet ?_ | refine wExit ?_ | refine wSkip ?_); try simp) | ((first | refine wLabel ?_ | refine wOn ?_ | refine wQn ?_); try simp only [thenA_n]) | (refine CallE.pure (isNaN_con _) rfl ?_) | (refine CallE.lent (isNaN_con _) rfl ?_) | (refine CallF.pure (isNaN_con _) rfl ?_) | (refine CallF.lent (isNaN_con _) rfl ?_) | (refine CallE.own (isNaN_con _) ?_) | (refine CallH.pure (isNaN_con _) rfl ?_) | (refine CallH.lent (isNaN_con _) rfl ?_) | (refine CallH.own (isNaN_con _) ?_) | (refine And.intro (fun _ => ?_) (fun _ => ?_))
 all_goals (apply hr; simp [Try.f30, cmpInt]; try omega)
def orL : List Int -> Int
 | [] => 0
 | a :: l => if a = 0 then orL l else a
theorem or_con (l : List Int) : ACon Try.prog 29 [.p (.sl 1 (l.map fun n => [I n]))] (.p (I (orL l))) := by
 refine ACon.len ⟨Try.f29, Try.func29, rfl, rfl⟩ 0 _ _ rfl fun hlen => ?_
 simp only [List.length_map] at hlen
 refine wBody Try.tab Try.mixed Try.func29 rfl rfl Try.ntmps29 (by simp) (by simp) fun Q hr hn => ?_
 repeat' first | (refine hK _ ?_; clear hK) | (refine hK _ _ ?_; clear hK) | (clear hK; refine hK _ ?_; clear hK) | (clear hK; clear hK; refine hK _ ?_; clear hK) | (clear hK; clear hK; clear hK; refine hK _ ?_; clear hK) | (clear hK; clear hK; clear hK; clear hK; refine hK _ ?_; clear hK) | (refine wSeq fun K hK => ?_) | ((first | refine wReg ?_ | refine wDrwQ rfl (by kernel_rfl) ?_ | refine wDrwI ?_ | refine wDrw (by kernel_rfl) ?_); simp only [List.map_cons, List.map_nil, strip]) | ((first | refine wIs fun K hK => ?_ | refine wOs fun K hK => ?_ | refine wQs fun K hK => ?_ | refine CallK_plain ?_ | refine CallQ_plain ?_ | refine CallR_plain ?_ | refine wCond ?_); simp) | (refine wIn ?_; refine And.intro (by kernel_rfl) ?_; try simp only [thenA_n]) | (first | refine wBlock ?_ | refine wScope ?_) | ((first | refine wRet ?_ | refine wExit ?_ | refine wSkip ?_); try simp) | ((first | refine wLabel ?_ | refine wOn ?_ | refine wQn ?_); try simp only [thenA_n])
 refine wLoop (fun n st => ∃ k, k + n = l.length /\ st.s 6 = .p (.sl 1 (l.map fun n => [I n])) /\ st.s 7 = .p (I l.length) /\ st.s 8 = .p (I k) /\ st.s 3 = .p (I 0) /\ orL (l.drop k) = orL l) l.length ⟨0, by simp⟩ fun K n st hL ⟨k, hk, h6, h7, h8, h3, hor⟩ => ?_
 by_cases hlt : k < l.length
 ·have hw := wrapS k _ hlt hlen
  have hd : l.drop k = l[k] :: l.drop (k + 1) := List.drop_eq_getElem_cons hlt
  have he : l[k]? = some l[k] := List.getElem?_eq_getElem hlt
  rw [hd, orL] at hor
  repeat' first | (refine hK _ ?_; clear hK) | (refine hK _ _ ?_; clear hK) | (clear hK; refine hK _ ?_; clear hK) | (clear hK; clear hK; refine hK _ ?_; clear hK) | (clear hK; clear hK; clear hK; refine hK _ ?_; clear hK) | (clear hK; clear hK; clear hK; clear hK; refine hK _ ?_; clear hK) | (refine wSeq fun K hK => ?_) | ((first | refine wReg ?_ | refine wDrwQ rfl (by kernel_rfl) ?_ | refine wDrwI ?_ | refine wDrw (by kernel_rfl) ?_); simp only [List.map_cons, List.map_nil, strip]) | ((first | refine wIs fun K hK => ?_ | refine wOs fun K hK => ?_ | refine wQs fun K hK => ?_ | refine CallK_plain ?_ | refine CallQ_plain ?_ | refine CallR_plain ?_ | refine wCond ?_); simp [h6, h7, h8, h3, hlt, hw, he]) | (refine wIn ?_; refine And.intro (by kernel_rfl) ?_; try simp only [thenA_n]) | (first | refine wBlock ?_ | refine wScope ?_) | ((first | refine wRet ?_ | refine wExit ?_ | refine wSkip ?_); try simp) | ((first | refine wLabel ?_ | refine wOn ?_ | refine wQn ?_); try simp only [thenA_n]) | (refine And.intro (fun hc => ?_) (fun hc => ?_))
  ·apply hr
   simp [Try.f29]
   rw [if_neg hc] at hor; exact hor.symm
  ·refine hL _ (n - 1) (by omega) ⟨k + 1, by omega, ?_⟩
   rw [if_pos hc] at hor
   simp [h6, h7, h3, hw, hor]
 ·have hd : l.drop k = [] := List.drop_of_length_le (by omega)
  rw [hd] at hor
  repeat' first | (refine hK _ ?_; clear hK) | (refine hK _ _ ?_; clear hK) | (clear hK; refine hK _ ?_; clear hK) | (clear hK; clear hK; refine hK _ ?_; clear hK) | (clear hK; clear hK; clear hK; refine hK _ ?_; clear hK) | (clear hK; clear hK; clear hK; clear hK; refine hK _ ?_; clear hK) | (refine wSeq fun K hK => ?_) | ((first | refine wReg ?_ | refine wDrwQ rfl (by kernel_rfl) ?_ | refine wDrwI ?_ | refine wDrw (by kernel_rfl) ?_); simp only [List.map_cons, List.map_nil, strip]) | ((first | refine wIs fun K hK => ?_ | refine wOs fun K hK => ?_ | refine wQs fun K hK => ?_ | refine CallK_plain ?_ | refine CallQ_plain ?_ | refine CallR_plain ?_ | refine wCond ?_); simp [h6, h7, h8, h3, hlt]) | (refine wIn ?_; refine And.intro (by kernel_rfl) ?_; try simp only [thenA_n]) | (first | refine wBlock ?_ | refine wScope ?_) | ((first | refine wRet ?_ | refine wExit ?_ | refine wSkip ?_); try simp) | ((first | refine wLabel ?_ | refine wOn ?_ | refine wQn ?_); try simp only [thenA_n])
  apply hr
  simp [Try.f29, h3, <- hor, orL]
def zcmp (a b c d : Int) : Int := if a = c /\ b = d then 0 else orL [cmpInt a c, cmpInt b d]
theorem cmp_con (a b c d : Int) : ACon Try.prog 20 [.p (.agg [I a, I b]), .p (.agg [I c, I d])] (.p (I (zcmp a b c d))) := by
 have hor := or_con [cmpInt a c, cmpInt b d]
 simp only [List.map_cons, List.map_nil] at hor
 by_cases hab : a = c /\ b = d
 ·obtain ⟨rfl, rfl⟩ := hab
  refine wBody Try.tab Try.mixed Try.func20 rfl rfl Try.ntmps20 (by simp) (by simp) fun Q hr hn => ?_
  repeat' first | (refine hK _ ?_; clear hK) | (refine hK _ _ ?_; clear hK) | (clear hK; refine hK _ ?_; clear hK) | (clear hK; clear hK; refine hK _ ?_; clear hK) | (clear hK; clear hK; clear hK; refine hK _ ?_; clear hK) | (clear hK; clear hK; clear hK; clear hK; refine hK _ ?_; clear hK) | (refine wSeq fun K hK => ?_) | ((first | refine wReg ?_ | refine wDrwQ rfl (by kernel_rfl) ?_ | refine wDrwI ?_ | refine wDrw (by kernel_rfl) ?_); simp only [List.map_cons, List.map_nil, strip]) | ((first | refine wIs fun K hK => ?_ | refine wOs fun K hK => ?_ | refine wQs fun K hK => ?_ | refine CallK_plain ?_ | refine CallQ_plain ?_ | refine CallR_plain ?_ | refine wCond ?_); simp) | (refine wIn ?_; refine And.intro (by kernel_rfl) ?_; try simp only [thenA_n]) | (first | refine wBlock ?_ | refine wScope ?_) | ((first | refine wRet ?_ | refine wExit ?_ | refine wSkip ?_); try simp) | ((first | refine wLabel ?_ | refine wOn ?_ | refine wQn ?_); try simp only [thenA_n])
  apply hr
  simp [Try.f20, zcmp]
 ·refine wBody Try.tab Try.mixed Try.func20 rfl rfl Try.ntmps20 (by simp) (by simp) fun Q hr hn => ?_
  repeat' first | (refine hK _ ?_; clear hK) | (refine hK _ _ ?_; clear hK) | (clear hK; refine hK _ ?_; clear hK) | (clear hK; clear hK; refine hK _ ?_; clear hK) | (clear hK; clear hK; clear hK; refine hK _ ?_; clear hK) | (clear hK; clear hK; clear hK; clear hK; refine hK _ ?_; clear hK) | (refine wSeq fun K hK => ?_) | ((first | refine wReg ?_ | refine wDrwQ rfl (by kernel_rfl) ?_ | refine wDrwI ?_ | refine wDrw (by kernel_rfl) ?_); simp only [List.map_cons, List.map_nil, strip]) | ((first | refine wIs fun K hK => ?_ | refine wOs fun K hK => ?_ | refine wQs fun K hK => ?_ | refine CallK_plain ?_ | refine CallQ_plain ?_ | refine CallR_plain ?_ | refine wCond ?_); simp [hab]) | (refine wIn ?_; refine And.intro (by kernel_rfl) ?_; try simp only [thenA_n]) | (first | refine wBlock ?_ | refine wScope ?_) | ((first | refine wRet ?_ | refine wExit ?_ | refine wSkip ?_); try simp) | ((first | refine wLabel ?_ | refine wOn ?_ | refine wQn ?_); try simp only [thenA_n]) | (refine CallE.pure (compare_con _ _) rfl ?_) | (refine CallE.lent (compare_con _ _) rfl ?_) | (refine CallF.pure (compare_con _ _) rfl ?_) | (refine CallF.lent (compare_con _ _) rfl ?_) | (refine CallE.own (compare_con _ _) ?_) | (refine CallH.pure (compare_con _ _) rfl ?_) | (refine CallH.lent (compare_con _ _) rfl ?_) | (refine CallH.own (compare_con _ _) ?_) | (refine CallE.pure (hor) rfl ?_) | (refine CallE.lent (hor) rfl ?_) | (refine CallF.pure (hor) rfl ?_) | (refine CallF.lent (hor) rfl ?_) | (refine CallE.own (hor) ?_) | (refine CallH.pure (hor) rfl ?_) | (refine CallH.lent (hor) rfl ?_) | (refine CallH.own (hor) ?_) | (intro _)
  all_goals first | exact hab | skip
  apply hr
  simp [Try.f20, zcmp, hab]
theorem zcmp_spec (a b c d : Int) : zcmp a b c d = if a = c /\ b = d then 0 else if a < c \/ (a = c /\ b < d) then -1 else 1 := by
 unfold zcmp cmpInt
 simp only [orL]
 repeat' split
 all_goals omega
def owner (n : Int) : Int := if n < 1 then -1 else n.tmod 16
theorem owner_con (n : Int) : ACon Try.prog 14 [.p (I n)] (.p (I (owner n))) := by
 unfold owner
 by_cases h : n < 1
 ·rw [if_pos h]
  refine wBody Try.tab Try.mixed Try.func14 rfl rfl Try.ntmps14 (by simp) (by simp) fun Q hr hn => ?_
  repeat' first | (refine hK _ ?_; clear hK) | (refine hK _ _ ?_; clear hK) | (clear hK; refine hK _ ?_; clear hK) | (clear hK; clear hK; refine hK _ ?_; clear hK) | (clear hK; clear hK; clear hK; refine hK _ ?_; clear hK) | (clear hK; clear hK; clear hK; clear hK; refine hK _ ?_; clear hK) | (refine wSeq fun K hK => ?_) | ((first | refine wReg ?_ | refine wDrwQ rfl (by kernel_rfl) ?_ | refine wDrwI ?_ | refine wDrw (by kernel_rfl) ?_); simp only [List.map_cons, List.map_nil, strip]) | ((first | refine wIs fun K hK => ?_ | refine wOs fun K hK => ?_ | refine wQs fun K hK => ?_ | refine CallK_plain ?_ | refine CallQ_plain ?_ | refine CallR_plain ?_ | refine wCond ?_); simp [h]) | (refine wIn ?_; refine And.intro (by kernel_rfl) ?_; try simp only [thenA_n]) | (first | refine wBlock ?_ | refine wScope ?_) | ((first | refine wRet ?_ | refine wExit ?_ | refine wSkip ?_); try simp) | ((first | refine wLabel ?_ | refine wOn ?_ | refine wQn ?_); try simp only [thenA_n])
  all_goals apply hr
  all_goals simp [Try.f14]
 ·rw [if_neg h]
  refine wBody Try.tab Try.mixed Try.func14 rfl rfl Try.ntmps14 (by simp) (by simp) fun Q hr hn => ?_
  repeat' first | (refine hK _ ?_; clear hK) | (refine hK _ _ ?_; clear hK) | (clear hK; refine hK _ ?_; clear hK) | (clear hK; clear hK; refine hK _ ?_; clear hK) | (clear hK; clear hK; clear hK; refine hK _ ?_; clear hK) | (clear hK; clear hK; clear hK; clear hK; refine hK _ ?_; clear hK) | (refine wSeq fun K hK => ?_) | ((first | refine wReg ?_ | refine wDrwQ rfl (by kernel_rfl) ?_ | refine wDrwI ?_ | refine wDrw (by kernel_rfl) ?_); simp only [List.map_cons, List.map_nil, strip]) | ((first | refine wIs fun K hK => ?_ | refine wOs fun K hK => ?_ | refine wQs fun K hK => ?_ | refine CallK_plain ?_ | refine CallQ_plain ?_ | refine CallR_plain ?_ | refine wCond ?_); simp [h]) | (refine wIn ?_; refine And.intro (by kernel_rfl) ?_; try simp only [thenA_n]) | (first | refine wBlock ?_ | refine wScope ?_) | ((first | refine wRet ?_ | refine wExit ?_ | refine wSkip ?_); try simp) | ((first | refine wLabel ?_ | refine wOn ?_ | refine wQn ?_); try simp only [thenA_n])
  all_goals apply hr
  all_goals simp [Try.f14]
theorem owner02_con (n : Int) : ACon Try.prog 16 [.p (I n)] (.p (I (owner n))) := by
 unfold owner
 by_cases h : n < 1
 ·rw [if_pos h]
  refine wBody Try.tab Try.mixed Try.func16 rfl rfl Try.ntmps16 (by simp) (by simp) fun Q hr hn => ?_
  repeat' first | (refine hK _ ?_; clear hK) | (refine hK _ _ ?_; clear hK) | (clear hK; refine hK _ ?_; clear hK) | (clear hK; clear hK; refine hK _ ?_; clear hK) | (clear hK; clear hK; clear hK; refine hK _ ?_; clear hK) | (clear hK; clear hK; clear hK; clear hK; refine hK _ ?_; clear hK) | (refine wSeq fun K hK => ?_) | ((first | refine wReg ?_ | refine wDrwQ rfl (by kernel_rfl) ?_ | refine wDrwI ?_ | refine wDrw (by kernel_rfl) ?_); simp only [List.map_cons, List.map_nil, strip]) | ((first | refine wIs fun K hK => ?_ | refine wOs fun K hK => ?_ | refine wQs fun K hK => ?_ | refine CallK_plain ?_ | refine CallQ_plain ?_ | refine CallR_plain ?_ | refine wCond ?_); simp [h]) | (refine wIn ?_; refine And.intro (by kernel_rfl) ?_; try simp only [thenA_n]) | (first | refine wBlock ?_ | refine wScope ?_) | ((first | refine wRet ?_ | refine wExit ?_ | refine wSkip ?_); try simp) | ((first | refine wLabel ?_ | refine wOn ?_ | refine wQn ?_); try simp only [thenA_n])
  all_goals apply hr
  all_goals simp [Try.f16]
 ·rw [if_neg h]
  refine wBody Try.tab Try.mixed Try.func16 rfl rfl Try.ntmps16 (by simp) (by simp) fun Q hr hn => ?_
  repeat' first | (refine hK _ ?_; clear hK) | (refine hK _ _ ?_; clear hK) | (clear hK; refine hK _ ?_; clear hK) | (clear hK; clear hK; refine hK _ ?_; clear hK) | (clear hK; clear hK; clear hK; refine hK _ ?_; clear hK) | (clear hK; clear hK; clear hK; clear hK; refine hK _ ?_; clear hK) | (refine wSeq fun K hK => ?_) | ((first | refine wReg ?_ | refine wDrwQ rfl (by kernel_rfl) ?_ | refine wDrwI ?_ | refine wDrw (by kernel_rfl) ?_); simp only [List.map_cons, List.map_nil, strip]) | ((first | refine wIs fun K hK => ?_ | refine wOs fun K hK => ?_ | refine wQs fun K hK => ?_ | refine CallK_plain ?_ | refine CallQ_plain ?_ | refine CallR_plain ?_ | refine wCond ?_); simp [h]) | (refine wIn ?_; refine And.intro (by kernel_rfl) ?_; try simp only [thenA_n]) | (first | refine wBlock ?_ | refine wScope ?_) | ((first | refine wRet ?_ | refine wExit ?_ | refine wSkip ?_); try simp) | ((first | refine wLabel ?_ | refine wOn ?_ | refine wQn ?_); try simp only [thenA_n])
  all_goals apply hr
  all_goals simp [Try.f16]
structure Zx where
 (e n : Int)
 deriving DecidableEq
def zxs (l : List Zx) : List (List PV) := l.map fun z => [I z.e, I z.n]
@[simp] theorem zxs_len (l : List Zx) : (zxs l).length = l.length := by simp [zxs]
@[simp] theorem zxs_getE {l : List Zx} {k : Nat} (h : k < (zxs l).length) : (zxs l)[k] = [I (l[k]'(by simpa using h)).e, I (l[k]'(by simpa using h)).n] := by simp [zxs]
structure Hy where
 (im : Sv)
 (lg : List Tx)
 deriving DecidableEq
def Hy.cells (h : Hy) : List PV := [.sl 5 (zns h.im.ns), .sl 1 (ints h.im.ss), I h.im.nx, I h.im.c.ep, I h.im.c.n, I h.im.c.kind, .sl 4 (mbs h.im.c.ms), I h.im.ae, I h.im.an, .sl 8 (txns h.lg)]
def wT (t : Tx) : Nat := t.ps.length + (t.ps.map fun p => p.c.ms.length).sum
def wH (h : Hy) : Nat := h.im.ns.length + h.im.c.ms.length + h.im.ss.length + (h.lg.map wT).sum
def near16 (h : Hy) : Prop := h.lg.length <= 90 /\ (∀ t ∈ h.lg, t.ps.length <= 50) /\ wH h + h.lg.length <= 300
instance (h : Hy) : Decidable (near16 h) := by unfold near16; infer_instance
structure SmallH (h : Hy) : Prop where
 ns : h.im.ns.length <= 140737488355328
 ss : h.im.ss.length <= 140737488355328
 ms : h.im.c.ms.length <= 140737488355328
 ps : ∀ t ∈ h.lg, t.ps.length <= 140737488355328 /\ ∀ p ∈ t.ps, p.c.ms.length <= 140737488355328
abbrev RConX (g : FuncId) (args : List V) (e c : Nat) (l : List (List PV)) : Prop := Con Try.prog g args [] (.ret (.row 2048) [.row e c l] [])
theorem cloneM (l : List (List PV)) (hl : l.length <= 4398046510976) : RConX 70 [.p (.sl 4 l)] 86 4 l := by
 refine wBodyR Try.tab Try.mixed Try.func70 rfl rfl Try.ntmps70 rfl (by simp) (by simp) fun Q hr hn => ?_
 repeat' first | (refine wRetG [.row 2 86 4] ?_) | (refine And.intro (by omega) (Or.inl ?_)) | (refine And.intro ?_ (fun hnil => ?_)) | (refine hK _ ?_; clear hK) | (refine hK _ _ ?_; clear hK) | (clear hK; refine hK _ ?_; clear hK) | (clear hK; clear hK; refine hK _ ?_; clear hK) | (clear hK; clear hK; clear hK; refine hK _ ?_; clear hK) | (clear hK; clear hK; clear hK; clear hK; refine hK _ ?_; clear hK) | (refine wSeq fun K hK => ?_) | ((first | refine wReg ?_ | refine wDrwQ rfl (by kernel_rfl) ?_ | refine wDrwI ?_ | refine wDrw (by kernel_rfl) ?_); simp only [List.map_cons, List.map_nil, strip]) | ((first | refine wIs fun K hK => ?_ | refine wOs fun K hK => ?_ | refine wQs fun K hK => ?_ | refine CallK_plain ?_ | refine CallQ_plain ?_ | refine CallR_plain ?_ | refine wCond ?_); simp) | (refine wIn ?_; refine And.intro (by kernel_rfl) ?_; try simp only [thenA_n]) | (first | refine wBlock ?_ | refine wScope ?_) | ((first | refine wRet ?_ | refine wExit ?_ | refine wSkip ?_); try simp) | ((first | refine wLabel ?_ | refine wOn ?_ | refine wQn ?_); try simp only [thenA_n])
 ·refine hr _ 7 (by simp) (by simp) (by omega)
 ·subst hnil
  simp only [thenA_r]
  refine hr _ 2 (by simp) (by simp) (by omega)
theorem ownConfig_con (e n k : Int) (ms : List (List PV)) (hl : ms.length <= 4398046510976) : ACon Try.prog 62 [.p (.agg [I e, I n, I k, .sl 4 ms])] (.p (.agg [I e, I n, I k, .sl 4 ms])) := by
 have c := cloneM ms hl
 refine wBody Try.tab Try.mixed Try.func62 rfl rfl Try.ntmps62 (by simp) (by simp) fun Q hr hn => ?_
 repeat' first | (refine hK _ ?_; clear hK) | (refine hK _ _ ?_; clear hK) | (clear hK; refine hK _ ?_; clear hK) | (clear hK; clear hK; refine hK _ ?_; clear hK) | (clear hK; clear hK; clear hK; refine hK _ ?_; clear hK) | (clear hK; clear hK; clear hK; clear hK; refine hK _ ?_; clear hK) | (refine wSeq fun K hK => ?_) | ((first | refine wReg ?_ | refine wDrwQ rfl (by kernel_rfl) ?_ | refine wDrwI ?_ | refine wDrw (by kernel_rfl) ?_); simp only [List.map_cons, List.map_nil, strip]) | ((first | refine wIs fun K hK => ?_ | refine wOs fun K hK => ?_ | refine wQs fun K hK => ?_ | refine CallK_plain ?_ | refine CallQ_plain ?_ | refine CallR_plain ?_ | refine wCond ?_); simp) | (refine wIn ?_; refine And.intro (by kernel_rfl) ?_; try simp only [thenA_n]) | (first | refine wBlock ?_ | refine wScope ?_) | ((first | refine wRet ?_ | refine wExit ?_ | refine wSkip ?_); try simp) | ((first | refine wLabel ?_ | refine wOn ?_ | refine wQn ?_); try simp only [thenA_n]) | (refine CallE.pure (c) rfl ?_) | (refine CallE.lent (c) rfl ?_) | (refine CallF.pure (c) rfl ?_) | (refine CallF.lent (c) rfl ?_) | (refine CallE.own (c) ?_) | (refine CallH.pure (c) rfl ?_) | (refine CallH.lent (c) rfl ?_) | (refine CallH.own (c) ?_)
 all_goals apply hr
 all_goals simp [Try.f62]
theorem set_takeK {α : Type} (l : List α) (k : Nat) (x : α) (h : k < l.length) : (l.set k x).take (k + 1) = l.take k ++ [x] := by
 rw [List.take_succ_eq_append_getElem (by simpa using h), List.getElem_set_self, List.take_set_of_le (Nat.le_refl _)]
set_option maxHeartbeats 1000000 in
theorem ownPart_con (x : Pt) (hm : x.c.ms.length <= 1000) : ACon Try.prog 52 [.p (.agg x.cells)] (.p (.agg x.cells)) := by
 have c := ownConfig_con x.c.ep x.c.n x.c.kind (mbs x.c.ms) (by rw [mbs_len]; omega)
 unfold Pt.cells
 refine wBody Try.tab Try.mixed Try.func52 rfl rfl Try.ntmps52 (by simp) (by simp) fun Q hr hn => ?_
 repeat' first | (refine hK _ ?_; clear hK) | (refine hK _ _ ?_; clear hK) | (clear hK; refine hK _ ?_; clear hK) | (clear hK; clear hK; refine hK _ ?_; clear hK) | (clear hK; clear hK; clear hK; refine hK _ ?_; clear hK) | (clear hK; clear hK; clear hK; clear hK; refine hK _ ?_; clear hK) | (refine wSeq fun K hK => ?_) | ((first | refine wReg ?_ | refine wDrwQ rfl (by kernel_rfl) ?_ | refine wDrwI ?_ | refine wDrw (by kernel_rfl) ?_); simp only [List.map_cons, List.map_nil, strip]) | ((first | refine wIs fun K hK => ?_ | refine wOs fun K hK => ?_ | refine wQs fun K hK => ?_ | refine CallK_plain ?_ | refine CallQ_plain ?_ | refine CallR_plain ?_ | refine wCond ?_); simp) | (refine wIn ?_; refine And.intro (by kernel_rfl) ?_; try simp only [thenA_n]) | (first | refine wBlock ?_ | refine wScope ?_) | ((first | refine wRet ?_ | refine wExit ?_ | refine wSkip ?_); try simp) | ((first | refine wLabel ?_ | refine wOn ?_ | refine wQn ?_); try simp only [thenA_n]) | (refine CallE.pure (c) rfl ?_) | (refine CallE.lent (c) rfl ?_) | (refine CallF.pure (c) rfl ?_) | (refine CallF.lent (c) rfl ?_) | (refine CallE.own (c) ?_) | (refine CallH.pure (c) rfl ?_) | (refine CallH.lent (c) rfl ?_) | (refine CallH.own (c) ?_)
 all_goals apply hr
 all_goals simp [Try.f52]
theorem pts_set (l : List Pt) (k : Nat) (x : Pt) : (pts l).set k [I x.k, SB x.z.p, SB x.z.d, I x.z.v, I x.z.k, I x.z.o, I x.s, I x.c.ep, I x.c.n, I x.c.kind, .sl 4 (mbs x.c.ms)] = pts (l.set k x) := by simp [pts, Pt.cells, List.map_set]
def pt0 : Pt := ⟨0, ⟨[], [], 0, 0, 0⟩, 0, ⟨0, 0, 0, []⟩⟩
theorem pts_rep (n : Nat) : List.replicate n [I 0, SB [], SB [], I 0, I 0, I 0, I 0, I 0, I 0, I 0, .sl 4 []] = pts (List.replicate n pt0) := by simp [pts, pt0, Pt.cells, mbs]
set_option maxHeartbeats 1000000 in
theorem listPt_con (l : List Pt) (hl : l.length <= 1000) (hm : ∀ x ∈ l, x.c.ms.length <= 1000) : RCon 51 [.p (.sl 11 (pts l)), .p (.v (.func (.func 52) #[] #[]))] 59 11 (pts l) := by
 by_cases h0 : l.length = 0
 ·obtain rfl := List.length_eq_zero_iff.1 h0
  refine wBodyR Try.tab Try.mixed Try.func51 rfl rfl Try.ntmps51 rfl (by simp) (by simp) fun Q hr hn => ?_
  repeat' first | (refine wRetG [.row 4 59 11] ?_) | (refine hK _ ?_; clear hK) | (refine hK _ _ ?_; clear hK) | (clear hK; refine hK _ ?_; clear hK) | (clear hK; clear hK; refine hK _ ?_; clear hK) | (clear hK; clear hK; clear hK; refine hK _ ?_; clear hK) | (clear hK; clear hK; clear hK; clear hK; refine hK _ ?_; clear hK) | (refine wSeq fun K hK => ?_) | ((first | refine wReg ?_ | refine wDrwQ rfl (by kernel_rfl) ?_ | refine wDrwI ?_ | refine wDrw (by kernel_rfl) ?_); simp only [List.map_cons, List.map_nil, strip]) | ((first | refine wIs fun K hK => ?_ | refine wOs fun K hK => ?_ | refine wQs fun K hK => ?_ | refine CallK_plain ?_ | refine CallQ_plain ?_ | refine CallR_plain ?_ | refine wCond ?_); simp [pts]) | (refine wIn ?_; refine And.intro (by kernel_rfl) ?_; try simp only [thenA_n]) | (first | refine wBlock ?_ | refine wScope ?_) | ((first | refine wRet ?_ | refine wExit ?_ | refine wSkip ?_); try simp) | ((first | refine wLabel ?_ | refine wOn ?_ | refine wQn ?_); try simp only [thenA_n])
  all_goals refine hr _ 4 (by simp) (by simp [pts]) (by omega)
 have h0' : ¬ (l.length : Int) = 0 := by omega
 refine wBodyR Try.tab Try.mixed Try.func51 rfl rfl Try.ntmps51 rfl (by simp) (by simp) fun Q hr hn => ?_
 repeat' first | (rw [if_pos ⟨by omega, by omega⟩]) | (refine hK _ ?_; clear hK) | (refine hK _ _ ?_; clear hK) | (clear hK; refine hK _ ?_; clear hK) | (clear hK; clear hK; refine hK _ ?_; clear hK) | (clear hK; clear hK; clear hK; refine hK _ ?_; clear hK) | (clear hK; clear hK; clear hK; clear hK; refine hK _ ?_; clear hK) | (refine wSeq fun K hK => ?_) | ((first | refine wReg ?_ | refine wDrwQ rfl (by kernel_rfl) ?_ | refine wDrwI ?_ | refine wDrw (by kernel_rfl) ?_); simp only [List.map_cons, List.map_nil, strip]) | ((first | refine wIs fun K hK => ?_ | refine wOs fun K hK => ?_ | refine wQs fun K hK => ?_ | refine CallK_plain ?_ | refine CallQ_plain ?_ | refine CallR_plain ?_ | refine wCond ?_); simp [h0, h0', pts_rep]) | (refine wIn ?_; refine And.intro (by kernel_rfl) ?_; try simp only [thenA_n]) | (first | refine wBlock ?_ | refine wScope ?_) | ((first | refine wRet ?_ | refine wExit ?_ | refine wSkip ?_); try simp) | ((first | refine wLabel ?_ | refine wOn ?_ | refine wQn ?_); try simp only [thenA_n])
 refine wLoop (fun N st => ∃ k zs, k + N = l.length /\ zs.length = l.length /\ zs.take k = l.take k /\ st.s 1 = .p (.v (.func (.func 52) #[] #[])) /\ st.s 5 = .row 13 /\ st.s 14 = .p (.sl 11 (pts l)) /\ st.s 15 = .p (I l.length) /\ st.s 16 = .p (I k) /\ st.b 13 = some (.row 59 11 (pts zs))) l.length ⟨0, List.replicate l.length pt0, by simp [pts_rep]⟩ fun K N st hL ⟨k, zs, hk, hz, hi, g1, g5, g14, g15, g16, b13⟩ => ?_
 by_cases hlt : k < l.length
 ·have hlt' : (k : Int) < l.length := by omega
  have hltz : k < zs.length := by omega
  have hw := wrapS k _ hlt (by omega)
  have he := pts_get hlt
  have c := ownPart_con l[k] (hm _ (List.getElem_mem hlt))
  unfold Pt.cells at c
  have hs := pts_set zs k l[k]
  have hst := set_takeK zs k l[k] hltz
  rw [hi, <- List.take_succ_eq_append_getElem hlt] at hst
  repeat' first | (refine hK _ ?_; clear hK) | (refine hK _ _ ?_; clear hK) | (clear hK; refine hK _ ?_; clear hK) | (clear hK; clear hK; refine hK _ ?_; clear hK) | (clear hK; clear hK; clear hK; refine hK _ ?_; clear hK) | (clear hK; clear hK; clear hK; clear hK; refine hK _ ?_; clear hK) | (refine wSeq fun K hK => ?_) | ((first | refine wReg ?_ | refine wDrwQ rfl (by kernel_rfl) ?_ | refine wDrwI ?_ | refine wDrw (by kernel_rfl) ?_); simp only [List.map_cons, List.map_nil, strip]) | ((first | refine wIs fun K hK => ?_ | refine wOs fun K hK => ?_ | refine wQs fun K hK => ?_ | refine CallK_plain ?_ | refine CallQ_plain ?_ | refine CallR_plain ?_ | refine wCond ?_); simp [g1, g5, g14, g15, g16, b13, hlt, hlt', hltz, hw, he, hs, Pt.cells]) | (refine wIn ?_; refine And.intro (by kernel_rfl) ?_; try simp only [thenA_n]) | (first | refine wBlock ?_ | refine wScope ?_) | ((first | refine wRet ?_ | refine wExit ?_ | refine wSkip ?_); try simp) | ((first | refine wLabel ?_ | refine wOn ?_ | refine wQn ?_); try simp only [thenA_n]) | (refine CallE.pure (c) rfl ?_) | (refine CallE.lent (c) rfl ?_) | (refine CallF.pure (c) rfl ?_) | (refine CallF.lent (c) rfl ?_) | (refine CallE.own (c) ?_) | (refine CallH.pure (c) rfl ?_) | (refine CallH.lent (c) rfl ?_) | (refine CallH.own (c) ?_)
  refine hL _ (N - 1) (by omega) ⟨k + 1, zs.set k l[k], by omega, by simpa using hz, hst, ?_⟩
  simp [g1, g5, g14, g15, g16, b13, hw, hs]
 ·have hlt' : ¬ (k : Int) < l.length := by omega
  rw [List.take_of_length_le (by omega), List.take_of_length_le (by omega)] at hi
  subst hi
  repeat' first | (refine hK _ ?_; clear hK) | (refine hK _ _ ?_; clear hK) | (clear hK; refine hK _ ?_; clear hK) | (clear hK; clear hK; refine hK _ ?_; clear hK) | (clear hK; clear hK; clear hK; refine hK _ ?_; clear hK) | (clear hK; clear hK; clear hK; clear hK; refine hK _ ?_; clear hK) | (refine wSeq fun K hK => ?_) | ((first | refine wReg ?_ | refine wDrwQ rfl (by kernel_rfl) ?_ | refine wDrwI ?_ | refine wDrw (by kernel_rfl) ?_); simp only [List.map_cons, List.map_nil, strip]) | ((first | refine wIs fun K hK => ?_ | refine wOs fun K hK => ?_ | refine wQs fun K hK => ?_ | refine CallK_plain ?_ | refine CallQ_plain ?_ | refine CallR_plain ?_ | refine wCond ?_); simp [g1, g5, g14, g15, g16, b13, hlt, hlt']) | (refine wIn ?_; refine And.intro (by kernel_rfl) ?_; try simp only [thenA_n]) | (first | refine wBlock ?_ | refine wScope ?_) | ((first | refine wRet ?_ | refine wExit ?_ | refine wSkip ?_); try simp) | ((first | refine wLabel ?_ | refine wOn ?_ | refine wQn ?_); try simp only [thenA_n])
  all_goals refine hr _ 13 (by simp [g5]) (by simp [b13]) (by omega)
theorem ownTxn_con (t : Tx) (hl : t.ps.length <= 1000) (hm : ∀ x ∈ t.ps, x.c.ms.length <= 1000) : ACon Try.prog 34 [.p (.agg t.cells)] (.p (.agg t.cells)) := by
 have c := listPt_con t.ps hl hm
 unfold Tx.cells
 refine wBody Try.tab Try.mixed Try.func34 rfl rfl Try.ntmps34 (by simp) (by simp) fun Q hr hn => ?_
 repeat' first | (refine hK _ ?_; clear hK) | (refine hK _ _ ?_; clear hK) | (clear hK; refine hK _ ?_; clear hK) | (clear hK; clear hK; refine hK _ ?_; clear hK) | (clear hK; clear hK; clear hK; refine hK _ ?_; clear hK) | (clear hK; clear hK; clear hK; clear hK; refine hK _ ?_; clear hK) | (refine wSeq fun K hK => ?_) | ((first | refine wReg ?_ | refine wDrwQ rfl (by kernel_rfl) ?_ | refine wDrwI ?_ | refine wDrw (by kernel_rfl) ?_); simp only [List.map_cons, List.map_nil, strip]) | ((first | refine wIs fun K hK => ?_ | refine wOs fun K hK => ?_ | refine wQs fun K hK => ?_ | refine CallK_plain ?_ | refine CallQ_plain ?_ | refine CallR_plain ?_ | refine wCond ?_); simp) | (refine wIn ?_; refine And.intro (by kernel_rfl) ?_; try simp only [thenA_n]) | (first | refine wBlock ?_ | refine wScope ?_) | ((first | refine wRet ?_ | refine wExit ?_ | refine wSkip ?_); try simp) | ((first | refine wLabel ?_ | refine wOn ?_ | refine wQn ?_); try simp only [thenA_n]) | (refine CallE.pure (c) rfl ?_) | (refine CallE.lent (c) rfl ?_) | (refine CallF.pure (c) rfl ?_) | (refine CallF.lent (c) rfl ?_) | (refine CallE.own (c) ?_) | (refine CallH.pure (c) rfl ?_) | (refine CallH.lent (c) rfl ?_) | (refine CallH.own (c) ?_)
 all_goals apply hr
 all_goals simp [Try.f34]
theorem txns_set (l : List Tx) (k : Nat) (t : Tx) : (txns l).set k [I t.e, I t.n, I t.s, I t.x, I t.r, I t.b, SB t.m, .sl 11 (pts t.ps)] = txns (l.set k t) := by simp [txns, Tx.cells, List.map_set]
def tx0 : Tx := ⟨0, 0, 0, 0, 0, 0, [], []⟩
theorem txns_rep (n : Nat) : List.replicate n [I 0, I 0, I 0, I 0, I 0, I 0, SB [], .sl 11 []] = txns (List.replicate n tx0) := by simp [txns, tx0, Tx.cells, pts]
set_option maxHeartbeats 1000000 in
theorem listTx_con (l : List Tx) (hl : l.length <= 1000) (hm : ∀ x ∈ l, x.ps.length <= 1000 /\ ∀ p ∈ x.ps, p.c.ms.length <= 1000) : RCon 33 [.p (.sl 8 (txns l)), .p (.v (.func (.func 34) #[] #[]))] 39 8 (txns l) := by
 by_cases h0 : l.length = 0
 ·obtain rfl := List.length_eq_zero_iff.1 h0
  refine wBodyR Try.tab Try.mixed Try.func33 rfl rfl Try.ntmps33 rfl (by simp) (by simp) fun Q hr hn => ?_
  repeat' first | (refine wRetG [.row 4 39 8] ?_) | (refine hK _ ?_; clear hK) | (refine hK _ _ ?_; clear hK) | (clear hK; refine hK _ ?_; clear hK) | (clear hK; clear hK; refine hK _ ?_; clear hK) | (clear hK; clear hK; clear hK; refine hK _ ?_; clear hK) | (clear hK; clear hK; clear hK; clear hK; refine hK _ ?_; clear hK) | (refine wSeq fun K hK => ?_) | ((first | refine wReg ?_ | refine wDrwQ rfl (by kernel_rfl) ?_ | refine wDrwI ?_ | refine wDrw (by kernel_rfl) ?_); simp only [List.map_cons, List.map_nil, strip]) | ((first | refine wIs fun K hK => ?_ | refine wOs fun K hK => ?_ | refine wQs fun K hK => ?_ | refine CallK_plain ?_ | refine CallQ_plain ?_ | refine CallR_plain ?_ | refine wCond ?_); simp [txns]) | (refine wIn ?_; refine And.intro (by kernel_rfl) ?_; try simp only [thenA_n]) | (first | refine wBlock ?_ | refine wScope ?_) | ((first | refine wRet ?_ | refine wExit ?_ | refine wSkip ?_); try simp) | ((first | refine wLabel ?_ | refine wOn ?_ | refine wQn ?_); try simp only [thenA_n])
  all_goals refine hr _ 4 (by simp) (by simp [txns]) (by omega)
 have h0' : ¬ (l.length : Int) = 0 := by omega
 refine wBodyR Try.tab Try.mixed Try.func33 rfl rfl Try.ntmps33 rfl (by simp) (by simp) fun Q hr hn => ?_
 repeat' first | (rw [if_pos ⟨by omega, by omega⟩]) | (refine hK _ ?_; clear hK) | (refine hK _ _ ?_; clear hK) | (clear hK; refine hK _ ?_; clear hK) | (clear hK; clear hK; refine hK _ ?_; clear hK) | (clear hK; clear hK; clear hK; refine hK _ ?_; clear hK) | (clear hK; clear hK; clear hK; clear hK; refine hK _ ?_; clear hK) | (refine wSeq fun K hK => ?_) | ((first | refine wReg ?_ | refine wDrwQ rfl (by kernel_rfl) ?_ | refine wDrwI ?_ | refine wDrw (by kernel_rfl) ?_); simp only [List.map_cons, List.map_nil, strip]) | ((first | refine wIs fun K hK => ?_ | refine wOs fun K hK => ?_ | refine wQs fun K hK => ?_ | refine CallK_plain ?_ | refine CallQ_plain ?_ | refine CallR_plain ?_ | refine wCond ?_); simp [h0, h0', txns_rep]) | (refine wIn ?_; refine And.intro (by kernel_rfl) ?_; try simp only [thenA_n]) | (first | refine wBlock ?_ | refine wScope ?_) | ((first | refine wRet ?_ | refine wExit ?_ | refine wSkip ?_); try simp) | ((first | refine wLabel ?_ | refine wOn ?_ | refine wQn ?_); try simp only [thenA_n])
 refine wLoop (fun N st => ∃ k zs, k + N = l.length /\ zs.length = l.length /\ zs.take k = l.take k /\ st.s 1 = .p (.v (.func (.func 34) #[] #[])) /\ st.s 5 = .row 13 /\ st.s 14 = .p (.sl 8 (txns l)) /\ st.s 15 = .p (I l.length) /\ st.s 16 = .p (I k) /\ st.b 13 = some (.row 39 8 (txns zs))) l.length ⟨0, List.replicate l.length tx0, by simp [txns_rep]⟩ fun K N st hL ⟨k, zs, hk, hz, hi, g1, g5, g14, g15, g16, b13⟩ => ?_
 by_cases hlt : k < l.length
 ·have hlt' : (k : Int) < l.length := by omega
  have hltz : k < zs.length := by omega
  have hw := wrapS k _ hlt (by omega)
  have he := txns_get hlt
  have c := ownTxn_con l[k] (hm _ (List.getElem_mem hlt)).1 (hm _ (List.getElem_mem hlt)).2
  unfold Tx.cells at c
  have hs := txns_set zs k l[k]
  have hst := set_takeK zs k l[k] hltz
  rw [hi, <- List.take_succ_eq_append_getElem hlt] at hst
  repeat' first | (refine hK _ ?_; clear hK) | (refine hK _ _ ?_; clear hK) | (clear hK; refine hK _ ?_; clear hK) | (clear hK; clear hK; refine hK _ ?_; clear hK) | (clear hK; clear hK; clear hK; refine hK _ ?_; clear hK) | (clear hK; clear hK; clear hK; clear hK; refine hK _ ?_; clear hK) | (refine wSeq fun K hK => ?_) | ((first | refine wReg ?_ | refine wDrwQ rfl (by kernel_rfl) ?_ | refine wDrwI ?_ | refine wDrw (by kernel_rfl) ?_); simp only [List.map_cons, List.map_nil, strip]) | ((first | refine wIs fun K hK => ?_ | refine wOs fun K hK => ?_ | refine wQs fun K hK => ?_ | refine CallK_plain ?_ | refine CallQ_plain ?_ | refine CallR_plain ?_ | refine wCond ?_); simp [g1, g5, g14, g15, g16, b13, hlt, hlt', hltz, hw, he, hs, Tx.cells]) | (refine wIn ?_; refine And.intro (by kernel_rfl) ?_; try simp only [thenA_n]) | (first | refine wBlock ?_ | refine wScope ?_) | ((first | refine wRet ?_ | refine wExit ?_ | refine wSkip ?_); try simp) | ((first | refine wLabel ?_ | refine wOn ?_ | refine wQn ?_); try simp only [thenA_n]) | (refine CallE.pure (c) rfl ?_) | (refine CallE.lent (c) rfl ?_) | (refine CallF.pure (c) rfl ?_) | (refine CallF.lent (c) rfl ?_) | (refine CallE.own (c) ?_) | (refine CallH.pure (c) rfl ?_) | (refine CallH.lent (c) rfl ?_) | (refine CallH.own (c) ?_)
  refine hL _ (N - 1) (by omega) ⟨k + 1, zs.set k l[k], by omega, by simpa using hz, hst, ?_⟩
  simp [g1, g5, g14, g15, g16, b13, hw, hs]
 ·have hlt' : ¬ (k : Int) < l.length := by omega
  rw [List.take_of_length_le (by omega), List.take_of_length_le (by omega)] at hi
  subst hi
  repeat' first | (refine hK _ ?_; clear hK) | (refine hK _ _ ?_; clear hK) | (clear hK; refine hK _ ?_; clear hK) | (clear hK; clear hK; refine hK _ ?_; clear hK) | (clear hK; clear hK; clear hK; refine hK _ ?_; clear hK) | (clear hK; clear hK; clear hK; clear hK; refine hK _ ?_; clear hK) | (refine wSeq fun K hK => ?_) | ((first | refine wReg ?_ | refine wDrwQ rfl (by kernel_rfl) ?_ | refine wDrwI ?_ | refine wDrw (by kernel_rfl) ?_); simp only [List.map_cons, List.map_nil, strip]) | ((first | refine wIs fun K hK => ?_ | refine wOs fun K hK => ?_ | refine wQs fun K hK => ?_ | refine CallK_plain ?_ | refine CallQ_plain ?_ | refine CallR_plain ?_ | refine wCond ?_); simp [g1, g5, g14, g15, g16, b13, hlt, hlt']) | (refine wIn ?_; refine And.intro (by kernel_rfl) ?_; try simp only [thenA_n]) | (first | refine wBlock ?_ | refine wScope ?_) | ((first | refine wRet ?_ | refine wExit ?_ | refine wSkip ?_); try simp) | ((first | refine wLabel ?_ | refine wOn ?_ | refine wQn ?_); try simp only [thenA_n])
  all_goals refine hr _ 13 (by simp [g5]) (by simp [b13]) (by omega)
theorem ownTxns_con (l : List Tx) (hl : l.length <= 1000) (hm : ∀ x ∈ l, x.ps.length <= 1000 /\ ∀ p ∈ x.ps, p.c.ms.length <= 1000) : RCon 23 [.p (.sl 8 (txns l))] 39 8 (txns l) := by
 have c := listTx_con l hl hm
 refine wBodyR Try.tab Try.mixed Try.func23 rfl rfl Try.ntmps23 rfl (by simp) (by simp) fun Q hr hn => ?_
 repeat' first | (refine CallE.pure (c) rfl ?_) | (refine CallE.lent (c) rfl ?_) | (refine CallF.pure (c) rfl ?_) | (refine CallF.lent (c) rfl ?_) | (refine CallE.own (c) ?_) | (refine CallH.pure (c) rfl ?_) | (refine CallH.lent (c) rfl ?_) | (refine CallH.own (c) ?_) | (refine hK _ ?_; clear hK) | (refine hK _ _ ?_; clear hK) | (clear hK; refine hK _ ?_; clear hK) | (clear hK; clear hK; refine hK _ ?_; clear hK) | (clear hK; clear hK; clear hK; refine hK _ ?_; clear hK) | (clear hK; clear hK; clear hK; clear hK; refine hK _ ?_; clear hK) | (refine wSeq fun K hK => ?_) | ((first | refine wReg ?_ | refine wDrwQ rfl (by kernel_rfl) ?_ | refine wDrwI ?_ | refine wDrw (by kernel_rfl) ?_); simp only [List.map_cons, List.map_nil, strip]) | ((first | refine wIs fun K hK => ?_ | refine wOs fun K hK => ?_ | refine wQs fun K hK => ?_ | refine CallK_plain ?_ | refine CallQ_plain ?_ | refine CallR_plain ?_ | refine wCond ?_); simp) | (refine wIn ?_; refine And.intro (by kernel_rfl) ?_; try simp only [thenA_n]) | (first | refine wBlock ?_ | refine wScope ?_) | ((first | refine wRet ?_ | refine wExit ?_ | refine wSkip ?_); try simp) | ((first | refine wLabel ?_ | refine wOn ?_ | refine wQn ?_); try simp only [thenA_n])
 all_goals refine hr _ 4 (by simp) (by simp) (by omega)
end Go.Proofs.Ythiccfadhllajaa
