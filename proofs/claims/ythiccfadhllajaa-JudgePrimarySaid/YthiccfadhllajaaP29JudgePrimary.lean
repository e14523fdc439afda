/- Texts that the proof needs: JD1 JD2 JL1 JL2 JC1 JP1. -/
import Derived.Test.YthiccfadhllajaaP24JudgePrimary
import Derived.Test.YthiccfadhllajaaP28JudgePrimary
import Derived.Test.YthiccfadhllajaaP27JudgePrimary
import Derived.Test.YthiccfadhllajaaP25JudgePrimary
namespace Go.Proofs.Ythiccfadhllajaa
set_option linter.unusedSimpArgs false
set_option linter.unusedVariables false
set_option maxRecDepth 8000
open Go Go.Av
attribute [local irreducible] Go.Av.CallK Go.Av.CallE Go.Av.CallQ Go.Av.CallF Go.Av.CallR Go.Av.CallH Go.Av.Con
structure Fa where
 (kd nd xi ep ae an : Int)
 t : Tx
 r : List PV
def Fa.cells (f : Fa) : List PV := I f.kd :: I f.nd :: I f.xi :: I f.ep :: I f.ae :: I f.an :: I f.t.e :: I f.t.n :: I f.t.s :: I f.t.x :: I f.t.r :: I f.t.b :: SB f.t.m :: .sl 11 (pts f.t.ps) :: f.r
def fas (l : List Fa) : List (List PV) := l.map Fa.cells
@[simp] theorem fas_len (l : List Fa) : (fas l).length = l.length := by simp [fas]
theorem fas_get {l : List Fa} {k : Nat} (h : k < l.length) : (fas l)[k]? = some (I l[k].kd :: I l[k].nd :: I l[k].xi :: I l[k].ep :: I l[k].ae :: I l[k].an :: I l[k].t.e :: I l[k].t.n :: I l[k].t.s :: I l[k].t.x :: I l[k].t.r :: I l[k].t.b :: SB l[k].t.m :: .sl 11 (pts l[k].t.ps) :: l[k].r) := by simp [fas, h, Fa.cells]
@[simp] theorem fas_getElem (l : List Fa) (k : Nat) (h : k < (fas l).length) : (fas l)[k] = I (l[k]'(by simpa using h)).kd :: I (l[k]'(by simpa using h)).nd :: I (l[k]'(by simpa using h)).xi :: I (l[k]'(by simpa using h)).ep :: I (l[k]'(by simpa using h)).ae :: I (l[k]'(by simpa using h)).an :: I (l[k]'(by simpa using h)).t.e :: I (l[k]'(by simpa using h)).t.n :: I (l[k]'(by simpa using h)).t.s :: I (l[k]'(by simpa using h)).t.x :: I (l[k]'(by simpa using h)).t.r :: I (l[k]'(by simpa using h)).t.b :: SB (l[k]'(by simpa using h)).t.m :: .sl 11 (pts (l[k]'(by simpa using h)).t.ps) :: (l[k]'(by simpa using h)).r := by simp [fas, Fa.cells]
@[simp] theorem ptsJ_getElem (l : List Pt) (k : Nat) (h : k < (pts l).length) : (pts l)[k] = (l[k]'(by simpa using h)).cells := by simp [pts]
def lenP : PV -> Nat
 | .sl _ l => l.length
 | .v (.string s) => s.data.toList.length
 | _ => 0
@[simp] theorem lenP_sl (c : Nat) (l : List (List PV)) : lenP (.sl c l) = l.length := rfl
@[simp] theorem lenP_SB (l : List UInt8) : lenP (SB l) = l.length := by show (bs l).data.toList.length = _; rw [bs_list]
structure OkF (f : Fa) : Prop where
 len : f.r.length = 44
 op : ∃ o, f.r[3]? = some (.sl 6 o) /\ o.length <= 140737488355328
 pa : ∃ s, f.r[10]? = some (SB s) /\ s.length <= 140737488355328
 ma : ∃ s, f.r[31]? = some (SB s) /\ s.length <= 140737488355328
 na : ∃ o, f.r[37]? = some (.sl 1 o) /\ o.length <= 140737488355328
 tm : f.t.m.length <= 140737488355328
 tp : f.t.ps.length <= 140737488355328
 ms : ∀ p ∈ f.t.ps, p.c.ms.length <= 140737488355328
def at' (r : List PV) (i : Nat) : PV := (r[i]?).getD (I 0)
theorem at_of {r : List PV} {i : Nat} {p : PV} (h : r[i]? = some p) : at' r i = p := by unfold at'; rw [h]; rfl
theorem sum_snocJ {α : Type} (f : α -> Nat) {l : List α} {k : Nat} (h : k < l.length) : ((l.take (k + 1)).map f).sum = ((l.take k).map f).sum + f l[k] := by
 rw [List.take_succ_eq_append_getElem h, List.map_append, List.sum_append]; simp
theorem sum_bd {α : Type} (f : α -> Nat) (c : Nat) {l : List α} (h : ∀ x ∈ l, f x <= c) : (l.map f).sum <= l.length * c := by
 induction l with
 | nil => simp
 | cons y l ih =>
  have h1 := h y List.mem_cons_self
  have h2 := ih fun x hx => h x (List.mem_cons_of_mem _ hx)
  simp only [List.map_cons, List.sum_cons, List.length_cons, Nat.succ_mul]; omega
def wMs (p : Pt) : Nat := p.c.ms.length
def wFa (f : Fa) : Nat := f.t.ps.length + lenP (at' f.r 3) + lenP (at' f.r 37) + (lenP (at' f.r 10) + f.t.m.length + lenP (at' f.r 31)) / 30 + (f.t.ps.map wMs).sum
def farFJ (l : List Fa) : Prop := 200 < l.length \/ (∃ f ∈ l, 50 < f.t.ps.length) \/ 800 < (l.map wFa).sum \/ 120 < l.length
structure FJ (l : List Fa) (i n : Nat) (st : St) : Prop where
 g1 : st.s 1 = .p (.sl 58 (fas l))
 g5 : st.s 5 = .p (I (n : Nat))
 g6 : st.s 6 = .p (I i)
set_option maxHeartbeats 8000000 in
theorem farJ1 {Q : AExit -> St -> Prop} {st : St} (l : List Fa) (i : Nat) (hi : i < l.length) (n0 : Nat) (hn0 : n0 <= 4000000000000000000) (hl : l[i].t.ps.length <= 50) (hm : ∀ p ∈ l[i].t.ps, p.c.ms.length <= 140737488355328)
 (hex : ∀ st, FJ l i (n0 + (l[i].t.ps.map wMs).sum) st -> Q (.exit 2) st) (hF : FJ l i n0 st) (h7 : st.s 7 = .p (I 0)) : WC Try.prog Try.T 109 (lp Try.f6 1) Q st := by
 obtain ⟨g1, g5, g6⟩ := hF
 have hi' : (i : Int) < l.length := by omega
 have hif : i < (fas l).length := by simpa using hi
 have he := fas_get hi
 refine wLoop (fun N st => ∃ k m, k + N = l[i].t.ps.length /\ m = n0 + ((l[i].t.ps.take k).map wMs).sum /\ m <= n0 + k * 140737488355328 /\ FJ l i m st /\ st.s 7 = .p (I k)) l[i].t.ps.length ⟨0, n0, by omega, by simp, by omega, ⟨g1, g5, g6⟩, h7⟩ fun K N st hL ⟨k, m, hk, hm2, hmb, ⟨g1, g5, g6⟩, g7⟩ => ?_
 generalize hps : l[i].t.ps = ps at *
 by_cases hlt : k < ps.length
 case neg =>
  have hlt' : ¬ (k : Int) < ps.length := by omega
  rw [List.take_of_length_le (by omega)] at hm2
  subst hm2
  repeat' first | (refine hK _ ?_; clear hK) | (refine hK _ _ ?_; clear hK) | (clear hK; refine hK _ ?_; clear hK) | (clear hK; clear hK; refine hK _ ?_; clear hK) | (clear hK; clear hK; clear hK; refine hK _ ?_; clear hK) | (clear hK; clear hK; clear hK; clear hK; refine hK _ ?_; clear hK) | (refine wSeq fun K hK => ?_) | ((first | refine wReg ?_ | refine wDrwQ rfl (by kernel_rfl) ?_ | refine wDrwI ?_ | refine wDrw (by kernel_rfl) ?_); simp only [List.map_cons, List.map_nil, strip]) | ((first | refine wIs fun K hK => ?_ | refine wOs fun K hK => ?_ | refine wQs fun K hK => ?_ | refine CallK_plain ?_ | refine CallQ_plain ?_ | refine CallR_plain ?_ | refine wCond ?_); simp [g1, g5, g6, g7, he, hi, hi', hif, hps, hlt, hlt', pts_len]) | (refine wIn ?_; refine And.intro (by kernel_rfl) ?_; try simp only [thenA_n]) | (first | refine wBlock ?_ | refine wScope ?_) | ((first | refine wRet ?_ | refine wExit ?_ | refine wSkip ?_); try simp) | ((first | refine wLabel ?_ | refine wOn ?_ | refine wQn ?_); try simp only [thenA_n])
  all_goals refine hex _ ⟨?_, ?_, ?_⟩
  all_goals simp [g1, g5, g6]
 have hlt' : (k : Int) < ps.length := by omega
 have hw := wrapS k _ hlt (by omega)
 have hep := pts_get hlt
 have hsj := sum_snocJ wMs hlt
 rw [show wMs ps[k] = ps[k].c.ms.length from rfl] at hsj
 have hmm := hm _ (List.getElem_mem hlt)
 obtain ⟨m2, hm3⟩ : ∃ m2 : Nat, m2 = m + ps[k].c.ms.length := ⟨_, rfl⟩
 have v3 : IntKind.i64.wrap ((m : Int) + (ps[k].c.ms.length : Int)) = (m2 : Int) := by rw [wrap_id (by omega) (by omega)]; omega
 repeat' first | (refine hK _ ?_; clear hK) | (refine hK _ _ ?_; clear hK) | (clear hK; refine hK _ ?_; clear hK) | (clear hK; clear hK; refine hK _ ?_; clear hK) | (clear hK; clear hK; clear hK; refine hK _ ?_; clear hK) | (clear hK; clear hK; clear hK; clear hK; refine hK _ ?_; clear hK) | (refine wSeq fun K hK => ?_) | ((first | refine wReg ?_ | refine wDrwQ rfl (by kernel_rfl) ?_ | refine wDrwI ?_ | refine wDrw (by kernel_rfl) ?_); simp only [List.map_cons, List.map_nil, strip]) | ((first | refine wIs fun K hK => ?_ | refine wOs fun K hK => ?_ | refine wQs fun K hK => ?_ | refine CallK_plain ?_ | refine CallQ_plain ?_ | refine CallR_plain ?_ | refine wCond ?_); simp [g1, g5, g6, g7, he, hi, hi', hif, hps, hlt, hlt', hw, hep, Pt.cells, v3, pts_len, mbs_len]) | (refine wIn ?_; refine And.intro (by kernel_rfl) ?_; try simp only [thenA_n]) | (first | refine wBlock ?_ | refine wScope ?_) | ((first | refine wRet ?_ | refine wExit ?_ | refine wSkip ?_); try simp) | ((first | refine wLabel ?_ | refine wOn ?_ | refine wQn ?_); try simp only [thenA_n])
 refine hL _ (N - 1) (by omega) ⟨k + 1, m2, by omega, by rw [hsj]; omega, by omega, ⟨?_, ?_, ?_⟩, ?_⟩
 all_goals simp [g1, g5, g6, g7, hw]
set_option maxHeartbeats 16000000 in
theorem far27_con (l : List Fa) (ho : ∀ f ∈ l, OkF f) (hlen : l.length <= 9223372036854775807) : ∃ D : Bool, ACon Try.prog 6 [.p (.agg [I 0, I 0, I 0, .sl 4 []]), .p (.sl 58 (fas l))] (.p (B D)) /\ (D = false -> ¬ farFJ l) := by
 suffices hall : ∀ D : Bool, (D = true ↔ farFJ l) -> ACon Try.prog 6 [.p (.agg [I 0, I 0, I 0, .sl 4 []]), .p (.sl 58 (fas l))] (.p (B D)) by
  by_cases h : farFJ l
  ·exact ⟨true, hall true (by simp [h]), fun h => by cases h⟩
  ·exact ⟨false, hall false (by simp [h]), fun _ => h⟩
 intro D hD
 by_cases h200 : 200 < l.length
 ·have h200' := eq_true (show (200 : Int) < (l.length : Int) by omega)
  rw [hD.2 (.inl h200)]
  refine wBody Try.tab Try.mixed Try.func6 rfl rfl Try.ntmps6 (by simp) (by simp) fun Q hr hn => ?_
  repeat' first | (refine hK _ ?_; clear hK) | (refine hK _ _ ?_; clear hK) | (clear hK; refine hK _ ?_; clear hK) | (clear hK; clear hK; refine hK _ ?_; clear hK) | (clear hK; clear hK; clear hK; refine hK _ ?_; clear hK) | (clear hK; clear hK; clear hK; clear hK; refine hK _ ?_; clear hK) | (refine wSeq fun K hK => ?_) | ((first | refine wReg ?_ | refine wDrwQ rfl (by kernel_rfl) ?_ | refine wDrwI ?_ | refine wDrw (by kernel_rfl) ?_); simp only [List.map_cons, List.map_nil, strip]) | ((first | refine wIs fun K hK => ?_ | refine wOs fun K hK => ?_ | refine wQs fun K hK => ?_ | refine CallK_plain ?_ | refine CallQ_plain ?_ | refine CallR_plain ?_ | refine wCond ?_); simp [h200']) | (refine wIn ?_; refine And.intro (by kernel_rfl) ?_; try simp only [thenA_n]) | (first | refine wBlock ?_ | refine wScope ?_) | ((first | refine wRet ?_ | refine wExit ?_ | refine wSkip ?_); try simp) | ((first | refine wLabel ?_ | refine wOn ?_ | refine wQn ?_); try simp only [thenA_n])
  all_goals apply hr
  all_goals simp [Try.f6]
 have h200' := eq_false (show ¬ (200 : Int) < (l.length : Int) by omega)
 refine wBody Try.tab Try.mixed Try.func6 rfl rfl Try.ntmps6 (by simp) (by simp) fun Q hr hn => ?_
 repeat' first | (refine hK _ ?_; clear hK) | (refine hK _ _ ?_; clear hK) | (clear hK; refine hK _ ?_; clear hK) | (clear hK; clear hK; refine hK _ ?_; clear hK) | (clear hK; clear hK; clear hK; refine hK _ ?_; clear hK) | (clear hK; clear hK; clear hK; clear hK; refine hK _ ?_; clear hK) | (refine wSeq fun K hK => ?_) | ((first | refine wReg ?_ | refine wDrwQ rfl (by kernel_rfl) ?_ | refine wDrwI ?_ | refine wDrw (by kernel_rfl) ?_); simp only [List.map_cons, List.map_nil, strip]) | ((first | refine wIs fun K hK => ?_ | refine wOs fun K hK => ?_ | refine wQs fun K hK => ?_ | refine CallK_plain ?_ | refine CallQ_plain ?_ | refine CallR_plain ?_ | refine wCond ?_); simp [h200']) | (refine wIn ?_; refine And.intro (by kernel_rfl) ?_; try simp only [thenA_n]) | (first | refine wBlock ?_ | refine wScope ?_) | ((first | refine wRet ?_ | refine wExit ?_ | refine wSkip ?_); try simp) | ((first | refine wLabel ?_ | refine wOn ?_ | refine wQn ?_); try simp only [thenA_n])
 refine wLoop (fun N st => ∃ i n, i + N = l.length /\ n = ((l.take i).map wFa).sum /\ n <= i * 8000000000000000 /\ (∀ f ∈ l.take i, ¬ 50 < f.t.ps.length) /\ FJ l i n st) l.length ⟨0, 0, by omega, by simp, by omega, by simp, ⟨?_, ?_, ?_⟩⟩ fun K N st hL ⟨i, n, hi, hn', hnb, hall, ⟨g1, g5, g6⟩⟩ => ?_
 any_goals (simp; done)
 by_cases hlt : i < l.length
 case neg =>
  have hlt' : ¬ (i : Int) < l.length := by omega
  rw [List.take_of_length_le (by omega)] at hn' hall
  have hR : farFJ l ↔ (800 < n \/ 120 < l.length) := by
   unfold farFJ; rw [hn']
   refine ⟨fun h => ?_, fun h => .inr (.inr h)⟩
   rcases h with h | ⟨f, hf, h⟩ | h
   ·exact absurd h h200
   ·exact absurd h (hall f hf)
   ·exact h
  rw [hR] at hD
  by_cases h7 : 800 < n
  ·have h7' := eq_true (show (800 : Int) < (n : Int) by omega)
   rw [hD.2 (.inl h7)] at hr
   repeat' first | (refine hK _ ?_; clear hK) | (refine hK _ _ ?_; clear hK) | (clear hK; refine hK _ ?_; clear hK) | (clear hK; clear hK; refine hK _ ?_; clear hK) | (clear hK; clear hK; clear hK; refine hK _ ?_; clear hK) | (clear hK; clear hK; clear hK; clear hK; refine hK _ ?_; clear hK) | (refine wSeq fun K hK => ?_) | ((first | refine wReg ?_ | refine wDrwQ rfl (by kernel_rfl) ?_ | refine wDrwI ?_ | refine wDrw (by kernel_rfl) ?_); simp only [List.map_cons, List.map_nil, strip]) | ((first | refine wIs fun K hK => ?_ | refine wOs fun K hK => ?_ | refine wQs fun K hK => ?_ | refine CallK_plain ?_ | refine CallQ_plain ?_ | refine CallR_plain ?_ | refine wCond ?_); simp [g1, g5, g6, hlt, hlt', h7']) | (refine wIn ?_; refine And.intro (by kernel_rfl) ?_; try simp only [thenA_n]) | (first | refine wBlock ?_ | refine wScope ?_) | ((first | refine wRet ?_ | refine wExit ?_ | refine wSkip ?_); try simp) | ((first | refine wLabel ?_ | refine wOn ?_ | refine wQn ?_); try simp only [thenA_n])
   all_goals apply hr
   all_goals simp [Try.f6, h7']
  have h7' := eq_false (show ¬ (800 : Int) < (n : Int) by omega)
  by_cases h2 : 120 < l.length
  ·have h2' := eq_true (show (120 : Int) < (l.length : Int) by omega)
   rw [hD.2 (.inr h2)] at hr
   repeat' first | (refine hK _ ?_; clear hK) | (refine hK _ _ ?_; clear hK) | (clear hK; refine hK _ ?_; clear hK) | (clear hK; clear hK; refine hK _ ?_; clear hK) | (clear hK; clear hK; clear hK; refine hK _ ?_; clear hK) | (clear hK; clear hK; clear hK; clear hK; refine hK _ ?_; clear hK) | (refine wSeq fun K hK => ?_) | ((first | refine wReg ?_ | refine wDrwQ rfl (by kernel_rfl) ?_ | refine wDrwI ?_ | refine wDrw (by kernel_rfl) ?_); simp only [List.map_cons, List.map_nil, strip]) | ((first | refine wIs fun K hK => ?_ | refine wOs fun K hK => ?_ | refine wQs fun K hK => ?_ | refine CallK_plain ?_ | refine CallQ_plain ?_ | refine CallR_plain ?_ | refine wCond ?_); simp [g1, g5, g6, hlt, hlt', h7', h2']) | (refine wIn ?_; refine And.intro (by kernel_rfl) ?_; try simp only [thenA_n]) | (first | refine wBlock ?_ | refine wScope ?_) | ((first | refine wRet ?_ | refine wExit ?_ | refine wSkip ?_); try simp) | ((first | refine wLabel ?_ | refine wOn ?_ | refine wQn ?_); try simp only [thenA_n])
   all_goals apply hr
   all_goals simp [Try.f6, h7', h2']
  ·have h2' := eq_false (show ¬ (120 : Int) < (l.length : Int) by omega)
   rw [show D = false from Bool.eq_false_iff.2 fun h => (hD.1 h).elim h7 h2] at hr
   repeat' first | (refine hK _ ?_; clear hK) | (refine hK _ _ ?_; clear hK) | (clear hK; refine hK _ ?_; clear hK) | (clear hK; clear hK; refine hK _ ?_; clear hK) | (clear hK; clear hK; clear hK; refine hK _ ?_; clear hK) | (clear hK; clear hK; clear hK; clear hK; refine hK _ ?_; clear hK) | (refine wSeq fun K hK => ?_) | ((first | refine wReg ?_ | refine wDrwQ rfl (by kernel_rfl) ?_ | refine wDrwI ?_ | refine wDrw (by kernel_rfl) ?_); simp only [List.map_cons, List.map_nil, strip]) | ((first | refine wIs fun K hK => ?_ | refine wOs fun K hK => ?_ | refine wQs fun K hK => ?_ | refine CallK_plain ?_ | refine CallQ_plain ?_ | refine CallR_plain ?_ | refine wCond ?_); simp [g1, g5, g6, hlt, hlt', h7', h2']) | (refine wIn ?_; refine And.intro (by kernel_rfl) ?_; try simp only [thenA_n]) | (first | refine wBlock ?_ | refine wScope ?_) | ((first | refine wRet ?_ | refine wExit ?_ | refine wSkip ?_); try simp) | ((first | refine wLabel ?_ | refine wOn ?_ | refine wQn ?_); try simp only [thenA_n])
   all_goals apply hr
   all_goals simp [Try.f6, h7', h2']
 have hlt' : (i : Int) < l.length := by omega
 have hif : i < (fas l).length := by simpa using hlt
 have hw := wrapS i _ hlt (by omega)
 have he := fas_get hlt
 have hsn := sum_snocJ wFa hlt
 have hmem := List.getElem_mem hlt
 have hok := ho _ hmem
 have htk : l.take (i + 1) = l.take i ++ [l[i]] := List.take_succ_eq_append_getElem hlt
 have hbad : 50 < l[i].t.ps.length -> D = true := fun h => hD.2 (.inr (.inl ⟨_, hmem, h⟩))
 have hP := fun {Q : AExit -> St -> Prop} {st : St} (n0 : Nat) (hn0 : n0 <= 4000000000000000000) (hl : l[i].t.ps.length <= 50) => farJ1 (Q := Q) (st := st) l i hlt n0 hn0 hl hok.ms
 obtain ⟨hr44, ⟨op, ho1, ho2⟩, ⟨pa, hp1, hp2⟩, ⟨wm, hm1, hm2⟩, ⟨na, hn1, hn2⟩, htm, htp, hms⟩ := hok
 have hW : wFa l[i] = l[i].t.ps.length + op.length + na.length + (pa.length + l[i].t.m.length + wm.length) / 30 + (l[i].t.ps.map wMs).sum := by
  unfold wFa
  rw [at_of ho1, at_of hp1, at_of hm1, at_of hn1]
  simp only [lenP_SB, lenP_sl]
 rw [hW] at hsn
 generalize hQ : l[i] = f at *
 have hop : ∀ h, f.r[3]'h = .sl 6 op := fun h => by rw [List.getElem?_eq_getElem h] at ho1; exact Option.some.inj ho1
 have hpa : ∀ h, f.r[10]'h = SB pa := fun h => by rw [List.getElem?_eq_getElem h] at hp1; exact Option.some.inj hp1
 have hwm : ∀ h, f.r[31]'h = SB wm := fun h => by rw [List.getElem?_eq_getElem h] at hm1; exact Option.some.inj hm1
 have hna : ∀ h, f.r[37]'h = .sl 1 na := fun h => by rw [List.getElem?_eq_getElem h] at hn1; exact Option.some.inj hn1
 obtain ⟨a1, e1⟩ : ∃ a : Nat, a = f.t.ps.length + op.length := ⟨_, rfl⟩
 have v1 : IntKind.i64.wrap ((f.t.ps.length : Int) + (op.length : Int)) = (a1 : Int) := by rw [wrap_id (by omega) (by omega)]; omega
 obtain ⟨a2, e2⟩ : ∃ a : Nat, a = a1 + na.length := ⟨_, rfl⟩
 have v2 : IntKind.i64.wrap ((a1 : Int) + (na.length : Int)) = (a2 : Int) := by rw [wrap_id (by omega) (by omega)]; omega
 obtain ⟨b1, e3⟩ : ∃ a : Nat, a = pa.length + f.t.m.length := ⟨_, rfl⟩
 have v3 : IntKind.i64.wrap ((pa.length : Int) + (f.t.m.length : Int)) = (b1 : Int) := by rw [wrap_id (by omega) (by omega)]; omega
 obtain ⟨b2, e4⟩ : ∃ a : Nat, a = b1 + wm.length := ⟨_, rfl⟩
 have v4 : IntKind.i64.wrap ((b1 : Int) + (wm.length : Int)) = (b2 : Int) := by rw [wrap_id (by omega) (by omega)]; omega
 obtain ⟨b3, e5⟩ : ∃ a : Nat, a = b2 / 30 := ⟨_, rfl⟩
 have v5 : IntKind.i64.wrap ((b2 : Int) / 30) = (b3 : Int) := by rw [wrap_id (by omega) (by omega)]; omega
 obtain ⟨a3, e6⟩ : ∃ a : Nat, a = a2 + b3 := ⟨_, rfl⟩
 have v6 : IntKind.i64.wrap ((a2 : Int) + (b3 : Int)) = (a3 : Int) := by rw [wrap_id (by omega) (by omega)]; omega
 obtain ⟨n1, e7⟩ : ∃ a : Nat, a = n + a3 := ⟨_, rfl⟩
 have v7 : IntKind.i64.wrap ((n : Int) + (a3 : Int)) = (n1 : Int) := by rw [wrap_id (by omega) (by omega)]; omega
 by_cases h50 : 50 < f.t.ps.length
 ·have h50' := eq_true (show (50 : Int) < (f.t.ps.length : Int) by omega)
  rw [hbad h50] at hr
  repeat' first | (refine hK _ ?_; clear hK) | (refine hK _ _ ?_; clear hK) | (clear hK; refine hK _ ?_; clear hK) | (clear hK; clear hK; refine hK _ ?_; clear hK) | (clear hK; clear hK; clear hK; refine hK _ ?_; clear hK) | (clear hK; clear hK; clear hK; clear hK; refine hK _ ?_; clear hK) | (refine wSeq fun K hK => ?_) | ((first | refine wReg ?_ | refine wDrwQ rfl (by kernel_rfl) ?_ | refine wDrwI ?_ | refine wDrw (by kernel_rfl) ?_); simp only [List.map_cons, List.map_nil, strip]) | ((first | refine wIs fun K hK => ?_ | refine wOs fun K hK => ?_ | refine wQs fun K hK => ?_ | refine CallK_plain ?_ | refine CallQ_plain ?_ | refine CallR_plain ?_ | refine wCond ?_); simp [g1, g5, g6, hlt, hlt', hif, he, hQ, hr44, ho1, hp1, hm1, hn1, hop, hpa, hwm, hna, v1, v2, v3, v4, v5, v6, v7, h50']) | (refine wIn ?_; refine And.intro (by kernel_rfl) ?_; try simp only [thenA_n]) | (first | refine wBlock ?_ | refine wScope ?_) | ((first | refine wRet ?_ | refine wExit ?_ | refine wSkip ?_); try simp) | ((first | refine wLabel ?_ | refine wOn ?_ | refine wQn ?_); try simp only [thenA_n])
  all_goals apply hr
  all_goals simp [Try.f6]
 have h50' := eq_false (show ¬ (50 : Int) < (f.t.ps.length : Int) by omega)
 repeat' first | (refine hK _ ?_; clear hK) | (refine hK _ _ ?_; clear hK) | (clear hK; refine hK _ ?_; clear hK) | (clear hK; clear hK; refine hK _ ?_; clear hK) | (clear hK; clear hK; clear hK; refine hK _ ?_; clear hK) | (clear hK; clear hK; clear hK; clear hK; refine hK _ ?_; clear hK) | (refine wSeq fun K hK => ?_) | ((first | refine wReg ?_ | refine wDrwQ rfl (by kernel_rfl) ?_ | refine wDrwI ?_ | refine wDrw (by kernel_rfl) ?_); simp only [List.map_cons, List.map_nil, strip]) | ((first | refine wIs fun K hK => ?_ | refine wOs fun K hK => ?_ | refine wQs fun K hK => ?_ | refine CallK_plain ?_ | refine CallQ_plain ?_ | refine CallR_plain ?_ | refine wCond ?_); simp [g1, g5, g6, hlt, hlt', hif, he, hQ, hr44, ho1, hp1, hm1, hn1, hop, hpa, hwm, hna, v1, v2, v3, v4, v5, v6, v7, h50']) | (refine wIn ?_; refine And.intro (by kernel_rfl) ?_; try simp only [thenA_n]) | (first | refine wBlock ?_ | refine wScope ?_) | ((first | refine wRet ?_ | refine wExit ?_ | refine wSkip ?_); try simp) | ((first | refine wLabel ?_ | refine wOn ?_ | refine wQn ?_); try simp only [thenA_n])
 have hmsum : (f.t.ps.map wMs).sum <= f.t.ps.length * 140737488355328 := sum_bd wMs _ hms
 refine hP n1 (by omega) (by omega) ?_ ⟨?_, ?_, ?_⟩ ?_
 rotate_left 1
 any_goals (simp [g1, g5, g6]; done)
 clear g1 g5 g6
 rintro st5 ⟨g1, g5, g6⟩
 simp only [blockA_e, if_true, thenA_n]
 obtain ⟨n5, f8⟩ : ∃ a : Nat, a = n1 + (f.t.ps.map wMs).sum := ⟨_, rfl⟩
 rw [<- f8] at g5
 repeat' first | (refine hK _ ?_; clear hK) | (refine hK _ _ ?_; clear hK) | (clear hK; refine hK _ ?_; clear hK) | (clear hK; clear hK; refine hK _ ?_; clear hK) | (clear hK; clear hK; clear hK; refine hK _ ?_; clear hK) | (clear hK; clear hK; clear hK; clear hK; refine hK _ ?_; clear hK) | (refine wSeq fun K hK => ?_) | ((first | refine wReg ?_ | refine wDrwQ rfl (by kernel_rfl) ?_ | refine wDrwI ?_ | refine wDrw (by kernel_rfl) ?_); simp only [List.map_cons, List.map_nil, strip]) | ((first | refine wIs fun K hK => ?_ | refine wOs fun K hK => ?_ | refine wQs fun K hK => ?_ | refine CallK_plain ?_ | refine CallQ_plain ?_ | refine CallR_plain ?_ | refine wCond ?_); simp [g1, g5, g6, hw]) | (refine wIn ?_; refine And.intro (by kernel_rfl) ?_; try simp only [thenA_n]) | (first | refine wBlock ?_ | refine wScope ?_) | ((first | refine wRet ?_ | refine wExit ?_ | refine wSkip ?_); try simp) | ((first | refine wLabel ?_ | refine wOn ?_ | refine wQn ?_); try simp only [thenA_n])
 refine hL _ (N - 1) (by omega) ⟨i + 1, n5, by omega, by rw [hsn]; omega, by omega, fun x hx => ?_, ⟨?_, ?_, ?_⟩⟩
 ·rw [htk] at hx
  rcases List.mem_append.1 hx with h | h
  ·exact hall x h
  ·rw [List.mem_singleton] at h; subst h; exact h50
 all_goals simp [g1, g5, g6, hw]
theorem wFrzJ [Glob] {P : Program} {T : TypeId -> Option Ty} {N : Nat} {ops : Array Oper} {o : Oper} {rest : List Oper} {st : St} {K : St -> Prop} {Z : Value -> St -> Prop} (b : Nat) {e c : Nat} (X : List (List PV)) (hb : st.b b = some (.row e c X)) (h : WO P T N ops (o :: rest) (Av.frz st b c X) K Z) : WO P T N ops (o :: rest) st K Z := by
 refine wFrz [.frz b] ?_
 have e0 : frzL st [.frz b] = Av.frz st b c X := by simp only [frzL, gh1, hb]
 rw [e0]
 exact h
abbrev kZ (e n : Int) : PV := .agg [I e, I n]
abbrev KZ : KS := .s [.i64, .i64]
theorem keqZ (a b c d : Int) : keq (kZ a b) (kZ c d) = decide (a = c /\ b = d) := by
 simp only [keq, kZ, List.map_cons, List.map_nil, pvv, ceq, veq]
 by_cases h1 : a = c <;> by_cases h2 : b = d <;> simp [h1, h2]
theorem keqI (a c : Int) : keq (I a) (I c) = decide (a = c) := by
 simp only [keq, veq]
 by_cases h1 : a = c <;> simp [h1]
def fz (T : List Tx) (e n : Int) : Option Nat := T.findIdx? fun t => decide (t.e = e /\ t.n = n)
def mpO (j : Nat) (T : List Tx) : List (PV × PV) := T.mapIdx fun i t => (kZ t.e t.n, I ((i + j : Nat) : Int))
theorem mfind_O (e n : Int) : ∀ (T : List Tx) (j i : Nat), mfind (kZ e n) (mpO j T) i = (fz T e n).map fun k => (i + k, I ((j + k : Nat) : Int))
 | [], j, i => rfl
 | t :: T, j, i => by
  have hc : mpO j (t :: T) = (kZ t.e t.n, I ((j : Nat) : Int)) :: mpO (j + 1) T := by
   unfold mpO
   rw [List.mapIdx_cons]
   simp only [Nat.zero_add]
   congr 1
   congr 1
   funext i t
   rw [show i + 1 + j = i + (j + 1) by omega]
  rw [hc, mfind, keqZ]
  unfold fz
  rw [List.findIdx?_cons]
  by_cases h : e = t.e /\ n = t.n
  ·have h' : t.e = e /\ t.n = n := ⟨h.1.symm, h.2.symm⟩
   simp only [decide_eq_true h, decide_eq_true h', if_true, Option.map_some, Nat.add_zero]
  ·have h' : ¬ (t.e = e /\ t.n = n) := fun h2 => h ⟨h2.1.symm, h2.2.symm⟩
   have := mfind_O e n T (j + 1) (i + 1)
   unfold fz at this
   simp only [decide_eq_true_eq, if_neg h, decide_eq_false h', Bool.false_eq_true, if_false, this]
   cases T.findIdx? fun t => decide (t.e = e /\ t.n = n) with
   | none => rfl
   | some k => simp only [Option.map_some, Option.some.injEq, Prod.mk.injEq]; exact ⟨by omega, by rw [show j + 1 + k = j + (k + 1) by omega]⟩
abbrev mpT (T : List Tx) : List (PV × PV) := mpO 0 T
theorem mlk_T (T : List Tx) (e n : Int) : mlk (kZ e n) (mpT T) = (fz T e n).map fun k => I ((k : Nat) : Int) := by
 unfold mlk
 rw [mfind_O]
 cases fz T e n with
 | none => rfl
 | some k => simp
theorem mput_T (T : List Tx) (t : Tx) (h : fz T t.e t.n = none) : mput (kZ t.e t.n) (I (T.length : Int)) (mpT T) = mpT (T ++ [t]) := by
 unfold mput
 rw [mfind_O, h]
 simp only [Option.map_none]
 show mpO 0 T ++ _ = mpO 0 (T ++ [t])
 unfold mpO
 rw [List.mapIdx_append]
 simp
theorem fz_some {T : List Tx} {e n : Int} {k : Nat} (h : fz T e n = some k) : ∃ hk : k < T.length, T[k].e = e /\ T[k].n = n := by
 unfold fz at h
 rw [List.findIdx?_eq_some_iff_getElem] at h
 obtain ⟨hk, h1, -⟩ := h
 exact ⟨hk, by simpa using h1⟩
def stL (T : List Tx) (f : Fa) : Option (List Tx) :=
 if f.kd = 2 then match fz T f.t.e f.t.n with
  | none => some (T ++ [f.t])
  | some k => if T[k]? = some f.t then some T else none
 else some T
def logP (l : List Fa) : Option (List Tx) := l.foldl (fun o f => o.bind (stL · f)) (some [])
theorem logP_snoc {l : List Fa} {k : Nat} (h : k < l.length) : logP (l.take (k + 1)) = (logP (l.take k)).bind (stL · l[k]) := by
 rw [List.take_succ_eq_append_getElem h]
 unfold logP
 rw [List.foldl_append]; rfl
theorem logP_none {l : List Fa} {k : Nat} (h : logP (l.take k) = none) : logP l = none := by
 have h2 : l = l.take k ++ l.drop k := (List.take_append_drop k l).symm
 unfold logP at h ⊢
 rw [h2, List.foldl_append, h]
 generalize l.drop k = m
 induction m with
 | nil => rfl
 | cons f m ih => simpa using ih
theorem stL_mem {T T' : List Tx} {f : Fa} (h : stL T f = some T') : (∀ t ∈ T', t ∈ T \/ t = f.t) /\ T.length <= T'.length := by
 unfold stL at h
 split at h
 ·split at h
  ·simp only [Option.some.injEq] at h; subst h
   exact ⟨by simp, by simp⟩
  ·split at h
   ·simp only [Option.some.injEq] at h; subst h
    exact ⟨fun t ht => .inl ht, Nat.le_refl _⟩
   ·cases h
 ·simp only [Option.some.injEq] at h; subst h
  exact ⟨fun t ht => .inl ht, Nat.le_refl _⟩
theorem logP_mem (l : List Fa) : ∀ (k : Nat) {T : List Tx}, logP (l.take k) = some T -> ∀ t ∈ T, ∃ f ∈ l, f.t = t
 | 0, T, h => by simp [logP] at h; subst h; simp
 | k + 1, T, h => by
  by_cases hk : k < l.length
  ·rw [logP_snoc hk] at h
   cases h1 : logP (l.take k) with
   | none => rw [h1] at h; cases h
   | some T' =>
    rw [h1] at h
    intro t ht
    rcases (stL_mem h).1 t ht with h2 | rfl
    ·exact logP_mem l k h1 t h2
    ·exact ⟨_, List.getElem_mem hk, rfl⟩
  ·rw [List.take_of_length_le (by omega)] at h
   have h' : logP (l.take k) = some T := by rw [List.take_of_length_le (by omega)]; exact h
   exact logP_mem l k h'
theorem logP_len (l : List Fa) : ∀ (k : Nat) {T : List Tx}, logP (l.take k) = some T -> T.length <= k
 | 0, T, h => by simp [logP] at h; subst h; simp
 | k + 1, T, h => by
  by_cases hk : k < l.length
  ·rw [logP_snoc hk] at h
   cases h1 : logP (l.take k) with
   | none => rw [h1] at h; cases h
   | some T' =>
    rw [h1] at h
    have := logP_len l k h1
    unfold stL at h
    simp only [Option.bind_some] at h
    split at h
    ·split at h
     ·simp only [Option.some.injEq] at h; subst h; simp; omega
     ·split at h
      ·simp only [Option.some.injEq] at h; subst h; omega
      ·cases h
    ·simp only [Option.some.injEq] at h; subst h; omega
  ·rw [List.take_of_length_le (by omega)] at h
   have h' : logP (l.take k) = some T := by rw [List.take_of_length_le (by omega)]; exact h
   have := logP_len l k h'; omega
def logT (l : List Fa) : V := match logP l with
 | some T => .tup [.p (.sl 8 (txns (srtT T))), .p (B true)]
 | none => .tup [.p (.sl 8 []), .p (B false)]
set_option maxHeartbeats 16000000 in
theorem log_con (l : List Fa) (h44 : ∀ f ∈ l, f.r.length = 44) (hl : l.length <= 1000) (hb : ∀ f ∈ l, f.t.ps.length <= 1000 /\ ∀ p ∈ f.t.ps, p.c.ms.length <= 1000) (h12 : ∀ T, logP l = some T -> T.length <= 12) : ACon Try.prog 11 [.p (.sl 58 (fas l))] (logT l) := by
 have hout : ∀ T, logP l = some T -> Con Try.prog 23 [.p (.sl 8 (txns (srtT T)))] [] (.ret (.row 2048) [.row 39 8 (txns (srtT T))] []) := fun T hT => by
  have h1 := logP_mem l l.length (by rw [List.take_length]; exact hT)
  refine ownTxns_con (srtT T) (by rw [srtT_len]; have := h12 T hT; omega) fun x hx => ?_
  obtain ⟨f, hf, rfl⟩ := h1 x ((srtT_spec T).2.2 x |>.1 hx)
  exact hb f hf
 have hoP : ∀ T, logP l = some T -> ACon Try.prog 23 [.p (.sl 8 (txns (srtT T)))] (.p (.sl 8 (txns (srtT T)))) := fun T hT => (hout T hT).toPure
 clear hout hb
 refine wBody Try.tab Try.mixed Try.func11 rfl rfl Try.ntmps11 (by simp) (by simp) fun Q hr hn => ?_
 repeat' first | (refine hK _ ?_; clear hK) | (refine hK _ _ ?_; clear hK) | (clear hK; refine hK _ ?_; clear hK) | (clear hK; clear hK; refine hK _ ?_; clear hK) | (clear hK; clear hK; clear hK; refine hK _ ?_; clear hK) | (clear hK; clear hK; clear hK; clear hK; refine hK _ ?_; clear hK) | (refine wSeq fun K hK => ?_) | ((first | refine wReg ?_ | refine wDrwQ rfl (by kernel_rfl) ?_ | refine wDrwI ?_ | refine wDrw (by kernel_rfl) ?_); simp only [List.map_cons, List.map_nil, strip]) | ((first | refine wIs fun K hK => ?_ | refine wOs fun K hK => ?_ | refine wQs fun K hK => ?_ | refine CallK_plain ?_ | refine CallQ_plain ?_ | refine CallR_plain ?_ | refine wCond ?_); simp) | (refine wIn ?_; refine And.intro (by kernel_rfl) ?_; try simp only [thenA_n]) | (first | refine wBlock ?_ | refine wScope ?_) | ((first | refine wRet ?_ | refine wExit ?_ | refine wSkip ?_); try simp) | ((first | refine wLabel ?_ | refine wOn ?_ | refine wQn ?_); try simp only [thenA_n])
 refine wLoopG [.row 5 39 8] (fun N st => ∃ k T, k + N = l.length /\ logP (l.take k) = some T /\ st.s 4 = .row 10 /\ st.b 10 = some (.mp KZ (mpT T)) /\ st.s 5 = .row 5 /\ st.b 5 = some (.row 39 8 (txns T)) /\ st.s 11 = .p (.sl 58 (fas l)) /\ st.s 12 = .p (I l.length) /\ st.s 13 = .p (I k)) l.length ⟨0, [], by simp [logP, txns, mpO]⟩ fun K N st hL ⟨k, T, hk, hT, g4, b10, g5, b5, g11, g12, g13⟩ => ?_
 by_cases hlt : k < l.length
 case neg =>
  have hlt' : ¬ (k : Int) < l.length := by omega
  rw [List.take_of_length_le (by omega)] at hT
  have cs := sortT_con T (h12 T hT)
  have co := hoP T hT
  unfold logT at hr
  rw [hT] at hr
  clear hL hoP
  repeat' first | (refine CallK_inpl 5 (cs) (by simp [b5, g5]) (by simp [argsG, argG, ren0, inN, pos, renCs, renC, b5, g5]) rfl ?_; simp [b5, g5]) | (refine wFrzJ 5 (txns (srtT T)) rfl ?_; simp [frz, sub, sub0, subB]) | (refine hK _ ?_; clear hK) | (refine hK _ _ ?_; clear hK) | (clear hK; refine hK _ ?_; clear hK) | (clear hK; clear hK; refine hK _ ?_; clear hK) | (clear hK; clear hK; clear hK; refine hK _ ?_; clear hK) | (clear hK; clear hK; clear hK; clear hK; refine hK _ ?_; clear hK) | (refine wSeq fun K hK => ?_) | ((first | refine wReg ?_ | refine wDrwQ rfl (by kernel_rfl) ?_ | refine wDrwI ?_ | refine wDrw (by kernel_rfl) ?_); simp only [List.map_cons, List.map_nil, strip]) | ((first | refine wIs fun K hK => ?_ | refine wOs fun K hK => ?_ | refine wQs fun K hK => ?_ | refine CallK_plain ?_ | refine CallQ_plain ?_ | refine CallR_plain ?_ | refine wCond ?_); simp [g4, g5, g11, g12, g13, b5, hlt, hlt']) | (refine wIn ?_; refine And.intro (by kernel_rfl) ?_; try simp only [thenA_n]) | (first | refine wBlock ?_ | refine wScope ?_) | ((first | refine wRet ?_ | refine wExit ?_ | refine wSkip ?_); try simp) | ((first | refine wLabel ?_ | refine wOn ?_ | refine wQn ?_); try simp only [thenA_n]) | (refine CallE.pure (co) rfl ?_) | (refine CallE.lent (co) rfl ?_) | (refine CallF.pure (co) rfl ?_) | (refine CallF.lent (co) rfl ?_) | (refine CallE.own (co) ?_) | (refine CallH.pure (co) rfl ?_) | (refine CallH.lent (co) rfl ?_) | (refine CallH.own (co) ?_)
  all_goals apply hr
  all_goals simp [Try.f11]
 have hlt' : (k : Int) < l.length := by omega
 have hw := wrapS k _ hlt (by omega)
 have he := fas_get hlt
 have hsn := logP_snoc hlt
 have hTl := logP_len l k hT
 rw [hT] at hsn
 simp only [Option.bind_some] at hsn
 have h44k := h44 _ (List.getElem_mem hlt)
 have hbad : stL T l[k] = none -> logP l = none := fun h => logP_none (k := k + 1) (by rw [hsn, h])
 generalize hQ : l[k] = f at *
 by_cases h2 : f.kd = 2
 case neg =>
  have h2' : (f.kd = 2) = False := eq_false h2
  unfold stL at hsn
  rw [if_neg h2] at hsn
  repeat' first | (refine hK _ ?_; clear hK) | (refine hK _ _ ?_; clear hK) | (clear hK; refine hK _ ?_; clear hK) | (clear hK; clear hK; refine hK _ ?_; clear hK) | (clear hK; clear hK; clear hK; refine hK _ ?_; clear hK) | (clear hK; clear hK; clear hK; clear hK; refine hK _ ?_; clear hK) | (refine wSeq fun K hK => ?_) | ((first | refine wReg ?_ | refine wDrwQ rfl (by kernel_rfl) ?_ | refine wDrwI ?_ | refine wDrw (by kernel_rfl) ?_); simp only [List.map_cons, List.map_nil, strip]) | ((first | refine wIs fun K hK => ?_ | refine wOs fun K hK => ?_ | refine wQs fun K hK => ?_ | refine CallK_plain ?_ | refine CallQ_plain ?_ | refine CallR_plain ?_ | refine wCond ?_); simp [g4, g5, g11, g12, g13, b5, b10, hlt, hlt', hw, he, hQ, h44k, h2, h2']) | (refine wIn ?_; refine And.intro (by kernel_rfl) ?_; try simp only [thenA_n]) | (first | refine wBlock ?_ | refine wScope ?_) | ((first | refine wRet ?_ | refine wExit ?_ | refine wSkip ?_); try simp) | ((first | refine wLabel ?_ | refine wOn ?_ | refine wQn ?_); try simp only [thenA_n])
  refine hL _ (N - 1) (by omega) ⟨k + 1, T, by omega, hsn, ?_⟩
  simp [g4, g5, g11, g12, g13, b5, b10, hw]
 unfold stL at hsn hbad
 rw [if_pos h2] at hsn hbad
 have hm := mlk_T T f.t.e f.t.n
 cases hf : fz T f.t.e f.t.n with
 | none =>
  rw [hf] at hsn hm
  simp only [Option.map_none] at hm
  have hmp := mput_T T f.t hf
  have hap : txns T ++ [[I f.t.e, I f.t.n, I f.t.s, I f.t.x, I f.t.r, I f.t.b, SB f.t.m, .sl 11 (pts f.t.ps)]] = txns (T ++ [f.t]) := by simp [txns, Tx.cells]
  have hTl2 : (txns T).length = T.length := txns_len T
  repeat' first | (refine And.intro (by (try simp only [txns_len]); omega) ?_) | (refine hK _ ?_; clear hK) | (refine hK _ _ ?_; clear hK) | (clear hK; refine hK _ ?_; clear hK) | (clear hK; clear hK; refine hK _ ?_; clear hK) | (clear hK; clear hK; clear hK; refine hK _ ?_; clear hK) | (clear hK; clear hK; clear hK; clear hK; refine hK _ ?_; clear hK) | (refine wSeq fun K hK => ?_) | ((first | refine wReg ?_ | refine wDrwQ rfl (by kernel_rfl) ?_ | refine wDrwI ?_ | refine wDrw (by kernel_rfl) ?_); simp only [List.map_cons, List.map_nil, strip]) | ((first | refine wIs fun K hK => ?_ | refine wOs fun K hK => ?_ | refine wQs fun K hK => ?_ | refine CallK_plain ?_ | refine CallQ_plain ?_ | refine CallR_plain ?_ | refine wCond ?_); simp [g4, g5, g11, g12, g13, b5, b10, hlt, hlt', hw, he, hQ, h44k, h2, hm, hmp, hap]) | (refine wIn ?_; refine And.intro (by kernel_rfl) ?_; try simp only [thenA_n]) | (first | refine wBlock ?_ | refine wScope ?_) | ((first | refine wRet ?_ | refine wExit ?_ | refine wSkip ?_); try simp) | ((first | refine wLabel ?_ | refine wOn ?_ | refine wQn ?_); try simp only [thenA_n])
  refine hL _ (N - 1) (by omega) ⟨k + 1, T ++ [f.t], by omega, hsn, ?_⟩
  simp [g4, g5, g11, g12, g13, b5, b10, hw, hmp, hap]
 | some j =>
  rw [hf] at hsn hm hbad
  simp only [Option.map_some] at hm
  obtain ⟨hj, hje, hjn⟩ := fz_some hf
  have hj' : (j : Int) < T.length := by omega
  have hej := txns_get hj
  have hTj : T[j]? = some T[j] := List.getElem?_eq_getElem hj
  simp only [hTj] at hsn hbad
  have cc := sameT_con T[j] f.t
  unfold Tx.cells at cc
  by_cases hs : T[j] = f.t
  ·rw [if_pos (by rw [hs])] at hsn
   rw [decide_eq_true hs] at cc
   repeat' first | (refine hK _ ?_; clear hK) | (refine hK _ _ ?_; clear hK) | (clear hK; refine hK _ ?_; clear hK) | (clear hK; clear hK; refine hK _ ?_; clear hK) | (clear hK; clear hK; clear hK; refine hK _ ?_; clear hK) | (clear hK; clear hK; clear hK; clear hK; refine hK _ ?_; clear hK) | (refine wSeq fun K hK => ?_) | ((first | refine wReg ?_ | refine wDrwQ rfl (by kernel_rfl) ?_ | refine wDrwI ?_ | refine wDrw (by kernel_rfl) ?_); simp only [List.map_cons, List.map_nil, strip]) | ((first | refine wIs fun K hK => ?_ | refine wOs fun K hK => ?_ | refine wQs fun K hK => ?_ | refine CallK_plain ?_ | refine CallQ_plain ?_ | refine CallR_plain ?_ | refine wCond ?_); simp [g4, g5, g11, g12, g13, b5, b10, hlt, hlt', hw, he, hQ, h44k, h2, hm, hj, hj', hej]) | (refine wIn ?_; refine And.intro (by kernel_rfl) ?_; try simp only [thenA_n]) | (first | refine wBlock ?_ | refine wScope ?_) | ((first | refine wRet ?_ | refine wExit ?_ | refine wSkip ?_); try simp) | ((first | refine wLabel ?_ | refine wOn ?_ | refine wQn ?_); try simp only [thenA_n]) | (refine CallE.pure (cc) rfl ?_) | (refine CallE.lent (cc) rfl ?_) | (refine CallF.pure (cc) rfl ?_) | (refine CallF.lent (cc) rfl ?_) | (refine CallE.own (cc) ?_) | (refine CallH.pure (cc) rfl ?_) | (refine CallH.lent (cc) rfl ?_) | (refine CallH.own (cc) ?_)
   refine hL _ (N - 1) (by omega) ⟨k + 1, T, by omega, hsn, ?_⟩
   simp [g4, g5, g11, g12, g13, b5, b10, hw]
  ·have hno := hbad (by simp only [Option.some.injEq]; rw [if_neg hs])
   rw [decide_eq_false hs] at cc
   unfold logT at hr
   rw [hno] at hr
   repeat' first | (refine hK _ ?_; clear hK) | (refine hK _ _ ?_; clear hK) | (clear hK; refine hK _ ?_; clear hK) | (clear hK; clear hK; refine hK _ ?_; clear hK) | (clear hK; clear hK; clear hK; refine hK _ ?_; clear hK) | (clear hK; clear hK; clear hK; clear hK; refine hK _ ?_; clear hK) | (refine wSeq fun K hK => ?_) | ((first | refine wReg ?_ | refine wDrwQ rfl (by kernel_rfl) ?_ | refine wDrwI ?_ | refine wDrw (by kernel_rfl) ?_); simp only [List.map_cons, List.map_nil, strip]) | ((first | refine wIs fun K hK => ?_ | refine wOs fun K hK => ?_ | refine wQs fun K hK => ?_ | refine CallK_plain ?_ | refine CallQ_plain ?_ | refine CallR_plain ?_ | refine wCond ?_); simp [g4, g5, g11, g12, g13, b5, b10, hlt, hlt', hw, he, hQ, h44k, h2, hm, hj, hj', hej]) | (refine wIn ?_; refine And.intro (by kernel_rfl) ?_; try simp only [thenA_n]) | (first | refine wBlock ?_ | refine wScope ?_) | ((first | refine wRet ?_ | refine wExit ?_ | refine wSkip ?_); try simp) | ((first | refine wLabel ?_ | refine wOn ?_ | refine wQn ?_); try simp only [thenA_n]) | (refine CallE.pure (cc) rfl ?_) | (refine CallE.lent (cc) rfl ?_) | (refine CallF.pure (cc) rfl ?_) | (refine CallF.lent (cc) rfl ?_) | (refine CallE.own (cc) ?_) | (refine CallH.pure (cc) rfl ?_) | (refine CallH.lent (cc) rfl ?_) | (refine CallH.own (cc) ?_)
   all_goals apply hr
   all_goals simp [Try.f11]
section
variable {α β : Type} [DecidableEq α]
def tm (kf : α -> PV) (vf : β -> PV) (M : List (α × β)) : List (PV × PV) := M.map fun q => (kf q.1, vf q.2)
def tl (a : α) : List (α × β) -> Option β
 | [] => none
 | q :: M => if a = q.1 then some q.2 else tl a M
def tp (a : α) (b : β) : List (α × β) -> List (α × β)
 | [] => [(a, b)]
 | q :: M => if a = q.1 then (a, b) :: M else q :: tp a b M
theorem tl_tp (a a' : α) (b : β) : ∀ M : List (α × β), tl a' (tp a b M) = if a' = a then some b else tl a' M
 | [] => by simp [tp, tl]
 | q :: M => by
  unfold tp
  by_cases h : a = q.1
  ·rw [if_pos h]
   unfold tl
   by_cases h2 : a' = a
   ·simp [h2]
   ·simp only [if_neg h2]
    rw [if_neg (fun h3 => h2 (h3.trans h.symm))]
  ·rw [if_neg h]
   unfold tl
   by_cases h2 : a' = q.1
   ·rw [if_pos h2, if_neg (fun h3 => h (h3.symm.trans h2)), if_pos h2]
   ·rw [if_neg h2, if_neg h2, tl_tp a a' b M]
variable {kf : α -> PV} {vf : β -> PV} (hk : ∀ a b, keq (kf a) (kf b) = decide (a = b))
include hk
theorem mfind_tm (a : α) : ∀ (M : List (α × β)) (i : Nat), (∃ j b, mfind (kf a) (tm kf vf M) i = some (i + j, vf b) /\ tl a M = some b /\ (∀ b', (tm kf vf M).set j (kf a, vf b') = tm kf vf (tp a b' M))) \/ (mfind (kf a) (tm kf vf M) i = none /\ tl a M = none /\ ∀ b', tm kf vf M ++ [(kf a, vf b')] = tm kf vf (tp a b' M))
 | [], i => .inr ⟨rfl, rfl, fun _ => rfl⟩
 | q :: M, i => by
  have hc : tm kf vf (q :: M) = (kf q.1, vf q.2) :: tm kf vf M := rfl
  rw [hc, mfind, hk]
  unfold tl
  by_cases h : a = q.1
  ·refine .inl ⟨0, q.2, by simp [h], by simp [h], fun b' => ?_⟩
   unfold tp
   rw [if_pos h]; rfl
  ·simp only [decide_eq_false h, Bool.false_eq_true, if_false, if_neg h]
   rcases mfind_tm a M (i + 1) with ⟨j, b, h1, h2, h3⟩ | ⟨h1, h2, h3⟩
   ·refine .inl ⟨j + 1, b, by rw [h1, show i + 1 + j = i + (j + 1) by omega], h2, fun b' => ?_⟩
    unfold tp
    rw [if_neg h, List.set_cons_succ, h3]; rfl
   ·refine .inr ⟨h1, h2, fun b' => ?_⟩
    unfold tp
    rw [if_neg h, List.cons_append, h3]; rfl
theorem mlk_tm (a : α) (M : List (α × β)) : mlk (kf a) (tm kf vf M) = (tl a M).map vf := by
 unfold mlk
 rcases mfind_tm (vf := vf) hk a M 0 with ⟨j, b, h1, h2, -⟩ | ⟨h1, h2, -⟩
 ·rw [h1, h2]; rfl
 ·rw [h1, h2]; rfl
theorem mput_tm (a : α) (b : β) (M : List (α × β)) : mput (kf a) (vf b) (tm kf vf M) = tm kf vf (tp a b M) := by
 unfold mput
 rcases mfind_tm (vf := vf) hk a M 0 with ⟨j, b0, h1, h2, h3⟩ | ⟨h1, h2, h3⟩
 ·rw [h1]
  simp only [Nat.zero_add]
  exact h3 b
 ·rw [h1]
  exact h3 b
end
abbrev kI (n : Int) : PV := I n
abbrev kP (z : Int × Int) : PV := kZ z.1 z.2
theorem hkI : ∀ a b, keq (kI a) (kI b) = decide (a = b) := fun a b => keqI a b
theorem hkP : ∀ a b, keq (kP a) (kP b) = decide (a = b) := fun a b => by
 rw [keqZ]
 obtain ⟨a1, a2⟩ := a
 obtain ⟨b1, b2⟩ := b
 simp
abbrev MA := List (Int × (Int × Int))
abbrev MB := List ((Int × Int) × (Int × Int))
def wasC (A : MA) (n : Int) : Int × Int := (tl n A).getD (0, 0)
def stC (s : MA × MB) (f : Fa) : Option (MA × MB) :=
 if f.kd = 3 then some (tp f.nd (f.ae, f.an) s.1, s.2)
 else if f.kd = 2 then
  if zcmp f.t.e f.t.n (wasC s.1 f.nd).1 (wasC s.1 f.nd).2 <= 0 then none
  else match tl (f.t.e, f.t.n) s.2 with
   | some z => if z = wasC s.1 f.nd then some (tp f.nd (f.t.e, f.t.n) s.1, tp (f.t.e, f.t.n) (wasC s.1 f.nd) s.2) else none
   | none => some (tp f.nd (f.t.e, f.t.n) s.1, tp (f.t.e, f.t.n) (wasC s.1 f.nd) s.2)
 else some s
def chP (l : List Fa) : Option (MA × MB) := l.foldl (fun o f => o.bind (stC · f)) (some ([], []))
theorem chP_snoc {l : List Fa} {k : Nat} (h : k < l.length) : chP (l.take (k + 1)) = (chP (l.take k)).bind (stC · l[k]) := by
 rw [List.take_succ_eq_append_getElem h]
 unfold chP
 rw [List.foldl_append]; rfl
theorem chP_none {l : List Fa} {k : Nat} (h : chP (l.take k) = none) : chP l = none := by
 have h2 : l = l.take k ++ l.drop k := (List.take_append_drop k l).symm
 unfold chP at h ⊢
 rw [h2, List.foldl_append, h]
 generalize l.drop k = m
 induction m with
 | nil => rfl
 | cons f m ih => simpa using ih
def chainB (l : List Fa) : Bool := (logP l).isSome && (chP l).isSome
set_option maxHeartbeats 16000000 in
theorem chain_con (l : List Fa) (cl : ACon Try.prog 11 [.p (.sl 58 (fas l))] (logT l)) (h44 : ∀ f ∈ l, f.r.length = 44) (hl : l.length <= 1000) : ACon Try.prog 10 [.p (.sl 58 (fas l))] (.p (B (chainB l))) := by
 unfold logT at cl
 unfold chainB
 cases hlog : logP l with
 | none =>
  rw [hlog] at cl
  simp only [Option.isSome_none, Bool.false_and]
  refine wBody Try.tab Try.mixed Try.func10 rfl rfl Try.ntmps10 (by simp) (by simp) fun Q hr hn => ?_
  repeat' first | (refine hK _ ?_; clear hK) | (refine hK _ _ ?_; clear hK) | (clear hK; refine hK _ ?_; clear hK) | (clear hK; clear hK; refine hK _ ?_; clear hK) | (clear hK; clear hK; clear hK; refine hK _ ?_; clear hK) | (clear hK; clear hK; clear hK; clear hK; refine hK _ ?_; clear hK) | (refine wSeq fun K hK => ?_) | ((first | refine wReg ?_ | refine wDrwQ rfl (by kernel_rfl) ?_ | refine wDrwI ?_ | refine wDrw (by kernel_rfl) ?_); simp only [List.map_cons, List.map_nil, strip]) | ((first | refine wIs fun K hK => ?_ | refine wOs fun K hK => ?_ | refine wQs fun K hK => ?_ | refine CallK_plain ?_ | refine CallQ_plain ?_ | refine CallR_plain ?_ | refine wCond ?_); simp) | (refine wIn ?_; refine And.intro (by kernel_rfl) ?_; try simp only [thenA_n]) | (first | refine wBlock ?_ | refine wScope ?_) | ((first | refine wRet ?_ | refine wExit ?_ | refine wSkip ?_); try simp) | ((first | refine wLabel ?_ | refine wOn ?_ | refine wQn ?_); try simp only [thenA_n]) | (refine CallE.pure (cl) rfl ?_) | (refine CallE.lent (cl) rfl ?_) | (refine CallF.pure (cl) rfl ?_) | (refine CallF.lent (cl) rfl ?_) | (refine CallE.own (cl) ?_) | (refine CallH.pure (cl) rfl ?_) | (refine CallH.lent (cl) rfl ?_) | (refine CallH.own (cl) ?_)
  all_goals apply hr
  all_goals simp [Try.f10]
 | some T0 =>
 rw [hlog] at cl
 simp only [Option.isSome_some, Bool.true_and]
 refine wBody Try.tab Try.mixed Try.func10 rfl rfl Try.ntmps10 (by simp) (by simp) fun Q hr hn => ?_
 repeat' first | (refine hK _ ?_; clear hK) | (refine hK _ _ ?_; clear hK) | (clear hK; refine hK _ ?_; clear hK) | (clear hK; clear hK; refine hK _ ?_; clear hK) | (clear hK; clear hK; clear hK; refine hK _ ?_; clear hK) | (clear hK; clear hK; clear hK; clear hK; refine hK _ ?_; clear hK) | (refine wSeq fun K hK => ?_) | ((first | refine wReg ?_ | refine wDrwQ rfl (by kernel_rfl) ?_ | refine wDrwI ?_ | refine wDrw (by kernel_rfl) ?_); simp only [List.map_cons, List.map_nil, strip]) | ((first | refine wIs fun K hK => ?_ | refine wOs fun K hK => ?_ | refine wQs fun K hK => ?_ | refine CallK_plain ?_ | refine CallQ_plain ?_ | refine CallR_plain ?_ | refine wCond ?_); simp) | (refine wIn ?_; refine And.intro (by kernel_rfl) ?_; try simp only [thenA_n]) | (first | refine wBlock ?_ | refine wScope ?_) | ((first | refine wRet ?_ | refine wExit ?_ | refine wSkip ?_); try simp) | ((first | refine wLabel ?_ | refine wOn ?_ | refine wQn ?_); try simp only [thenA_n]) | (refine CallE.pure (cl) rfl ?_) | (refine CallE.lent (cl) rfl ?_) | (refine CallF.pure (cl) rfl ?_) | (refine CallF.lent (cl) rfl ?_) | (refine CallE.own (cl) ?_) | (refine CallH.pure (cl) rfl ?_) | (refine CallH.lent (cl) rfl ?_) | (refine CallH.own (cl) ?_)
 clear cl
 refine wLoop (fun N st => ∃ k A M, k + N = l.length /\ chP (l.take k) = some (A, M) /\ st.s 5 = .row 19 /\ st.b 19 = some (.mp (.i .i64) (tm kI kP A)) /\ st.s 6 = .row 20 /\ st.b 20 = some (.mp KZ (tm kP kP M)) /\ st.s 21 = .p (.sl 58 (fas l)) /\ st.s 22 = .p (I l.length) /\ st.s 23 = .p (I k)) l.length ⟨0, [], [], by simp [chP, tm]⟩ fun K N st hL ⟨k, A, M, hk, hT, g5, b19, g6, b20, g21, g22, g23⟩ => ?_
 by_cases hlt : k < l.length
 case neg =>
  have hlt' : ¬ (k : Int) < l.length := by omega
  rw [List.take_of_length_le (by omega)] at hT
  rw [hT] at hr
  repeat' first | (refine hK _ ?_; clear hK) | (refine hK _ _ ?_; clear hK) | (clear hK; refine hK _ ?_; clear hK) | (clear hK; clear hK; refine hK _ ?_; clear hK) | (clear hK; clear hK; clear hK; refine hK _ ?_; clear hK) | (clear hK; clear hK; clear hK; clear hK; refine hK _ ?_; clear hK) | (refine wSeq fun K hK => ?_) | ((first | refine wReg ?_ | refine wDrwQ rfl (by kernel_rfl) ?_ | refine wDrwI ?_ | refine wDrw (by kernel_rfl) ?_); simp only [List.map_cons, List.map_nil, strip]) | ((first | refine wIs fun K hK => ?_ | refine wOs fun K hK => ?_ | refine wQs fun K hK => ?_ | refine CallK_plain ?_ | refine CallQ_plain ?_ | refine CallR_plain ?_ | refine wCond ?_); simp [g5, g6, g21, g22, g23, b19, b20, hlt, hlt']) | (refine wIn ?_; refine And.intro (by kernel_rfl) ?_; try simp only [thenA_n]) | (first | refine wBlock ?_ | refine wScope ?_) | ((first | refine wRet ?_ | refine wExit ?_ | refine wSkip ?_); try simp) | ((first | refine wLabel ?_ | refine wOn ?_ | refine wQn ?_); try simp only [thenA_n])
  all_goals apply hr
  all_goals simp [Try.f10]
 have hlt' : (k : Int) < l.length := by omega
 have hw := wrapS k _ hlt (by omega)
 have he := fas_get hlt
 have hsn := chP_snoc hlt
 rw [hT] at hsn
 simp only [Option.bind_some] at hsn
 have h44k := h44 _ (List.getElem_mem hlt)
 have hbad : stC (A, M) l[k] = none -> chP l = none := fun h => chP_none (k := k + 1) (by rw [hsn, h])
 generalize hQ : l[k] = f at *
 unfold stC at hsn hbad
 by_cases h3 : f.kd = 3
 ·rw [if_pos h3] at hsn
  have hp := mput_tm (vf := kP) hkI f.nd (f.ae, f.an) A
  repeat' first | (refine hK _ ?_; clear hK) | (refine hK _ _ ?_; clear hK) | (clear hK; refine hK _ ?_; clear hK) | (clear hK; clear hK; refine hK _ ?_; clear hK) | (clear hK; clear hK; clear hK; refine hK _ ?_; clear hK) | (clear hK; clear hK; clear hK; clear hK; refine hK _ ?_; clear hK) | (refine wSeq fun K hK => ?_) | ((first | refine wReg ?_ | refine wDrwQ rfl (by kernel_rfl) ?_ | refine wDrwI ?_ | refine wDrw (by kernel_rfl) ?_); simp only [List.map_cons, List.map_nil, strip]) | ((first | refine wIs fun K hK => ?_ | refine wOs fun K hK => ?_ | refine wQs fun K hK => ?_ | refine CallK_plain ?_ | refine CallQ_plain ?_ | refine CallR_plain ?_ | refine wCond ?_); simp [g5, g6, g21, g22, g23, b19, b20, hlt, hlt', hw, he, hQ, h44k, h3, hp]) | (refine wIn ?_; refine And.intro (by kernel_rfl) ?_; try simp only [thenA_n]) | (first | refine wBlock ?_ | refine wScope ?_) | ((first | refine wRet ?_ | refine wExit ?_ | refine wSkip ?_); try simp) | ((first | refine wLabel ?_ | refine wOn ?_ | refine wQn ?_); try simp only [thenA_n])
  refine hL _ (N - 1) (by omega) ⟨k + 1, _, _, by omega, hsn, ?_⟩
  simp [g5, g6, g21, g22, g23, b19, b20, hw, hp]
 have h3' := eq_false h3
 rw [if_neg h3] at hsn hbad
 by_cases h2 : f.kd = 2
 case neg =>
  have h2' := eq_false h2
  rw [if_neg h2] at hsn
  repeat' first | (refine hK _ ?_; clear hK) | (refine hK _ _ ?_; clear hK) | (clear hK; refine hK _ ?_; clear hK) | (clear hK; clear hK; refine hK _ ?_; clear hK) | (clear hK; clear hK; clear hK; refine hK _ ?_; clear hK) | (clear hK; clear hK; clear hK; clear hK; refine hK _ ?_; clear hK) | (refine wSeq fun K hK => ?_) | ((first | refine wReg ?_ | refine wDrwQ rfl (by kernel_rfl) ?_ | refine wDrwI ?_ | refine wDrw (by kernel_rfl) ?_); simp only [List.map_cons, List.map_nil, strip]) | ((first | refine wIs fun K hK => ?_ | refine wOs fun K hK => ?_ | refine wQs fun K hK => ?_ | refine CallK_plain ?_ | refine CallQ_plain ?_ | refine CallR_plain ?_ | refine wCond ?_); simp [g5, g6, g21, g22, g23, b19, b20, hlt, hlt', hw, he, hQ, h44k, h3', h2']) | (refine wIn ?_; refine And.intro (by kernel_rfl) ?_; try simp only [thenA_n]) | (first | refine wBlock ?_ | refine wScope ?_) | ((first | refine wRet ?_ | refine wExit ?_ | refine wSkip ?_); try simp) | ((first | refine wLabel ?_ | refine wOn ?_ | refine wQn ?_); try simp only [thenA_n])
  refine hL _ (N - 1) (by omega) ⟨k + 1, _, _, by omega, hsn, ?_⟩
  simp [g5, g6, g21, g22, g23, b19, b20, hw]
 rw [if_pos h2] at hsn hbad
 have hm1 := mlk_tm (vf := kP) hkI f.nd A
 have hm2 := mlk_tm (vf := kP) hkP (f.t.e, f.t.n) M
 have cc := cmp_con f.t.e f.t.n (wasC A f.nd).1 (wasC A f.nd).2
 have hp1 := mput_tm (vf := kP) hkI f.nd (f.t.e, f.t.n) A
 have hp2 := mput_tm (vf := kP) hkP (f.t.e, f.t.n) (wasC A f.nd) M
 cases hA : tl f.nd A with
 | none =>
  rw [hA] at hm1
  simp only [Option.map_none] at hm1
  have hwas : wasC A f.nd = (0, 0) := by unfold wasC; rw [hA]; rfl
  rw [hwas] at cc hsn hbad hp2
  simp only at cc hsn hbad
  generalize zcmp f.t.e f.t.n 0 0 = z at *
  by_cases hle : z <= 0
  ·rw [if_pos hle] at hbad
   have hno := hbad rfl
   rw [hno] at hr
   repeat' first | (refine hK _ ?_; clear hK) | (refine hK _ _ ?_; clear hK) | (clear hK; refine hK _ ?_; clear hK) | (clear hK; clear hK; refine hK _ ?_; clear hK) | (clear hK; clear hK; clear hK; refine hK _ ?_; clear hK) | (clear hK; clear hK; clear hK; clear hK; refine hK _ ?_; clear hK) | (refine wSeq fun K hK => ?_) | ((first | refine wReg ?_ | refine wDrwQ rfl (by kernel_rfl) ?_ | refine wDrwI ?_ | refine wDrw (by kernel_rfl) ?_); simp only [List.map_cons, List.map_nil, strip]) | ((first | refine wIs fun K hK => ?_ | refine wOs fun K hK => ?_ | refine wQs fun K hK => ?_ | refine CallK_plain ?_ | refine CallQ_plain ?_ | refine CallR_plain ?_ | refine wCond ?_); simp [g5, g6, g21, g22, g23, b19, b20, hlt, hlt', hw, he, hQ, h44k, h3', h2, hle, hm1]) | (refine wIn ?_; refine And.intro (by kernel_rfl) ?_; try simp only [thenA_n]) | (first | refine wBlock ?_ | refine wScope ?_) | ((first | refine wRet ?_ | refine wExit ?_ | refine wSkip ?_); try simp) | ((first | refine wLabel ?_ | refine wOn ?_ | refine wQn ?_); try simp only [thenA_n]) | (refine CallE.pure (cc) rfl ?_) | (refine CallE.lent (cc) rfl ?_) | (refine CallF.pure (cc) rfl ?_) | (refine CallF.lent (cc) rfl ?_) | (refine CallE.own (cc) ?_) | (refine CallH.pure (cc) rfl ?_) | (refine CallH.lent (cc) rfl ?_) | (refine CallH.own (cc) ?_)
   all_goals apply hr
   all_goals simp [Try.f10]
  rw [if_neg hle] at hsn hbad
  cases hM : tl (f.t.e, f.t.n) M with
  | none =>
   rw [hM] at hsn hm2
   simp only [Option.map_none] at hm2
   repeat' first | (refine hK _ ?_; clear hK) | (refine hK _ _ ?_; clear hK) | (clear hK; refine hK _ ?_; clear hK) | (clear hK; clear hK; refine hK _ ?_; clear hK) | (clear hK; clear hK; clear hK; refine hK _ ?_; clear hK) | (clear hK; clear hK; clear hK; clear hK; refine hK _ ?_; clear hK) | (refine wSeq fun K hK => ?_) | ((first | refine wReg ?_ | refine wDrwQ rfl (by kernel_rfl) ?_ | refine wDrwI ?_ | refine wDrw (by kernel_rfl) ?_); simp only [List.map_cons, List.map_nil, strip]) | ((first | refine wIs fun K hK => ?_ | refine wOs fun K hK => ?_ | refine wQs fun K hK => ?_ | refine CallK_plain ?_ | refine CallQ_plain ?_ | refine CallR_plain ?_ | refine wCond ?_); simp [g5, g6, g21, g22, g23, b19, b20, hlt, hlt', hw, he, hQ, h44k, h3', h2, hle, hm1, hm2, hp1, hp2]) | (refine wIn ?_; refine And.intro (by kernel_rfl) ?_; try simp only [thenA_n]) | (first | refine wBlock ?_ | refine wScope ?_) | ((first | refine wRet ?_ | refine wExit ?_ | refine wSkip ?_); try simp) | ((first | refine wLabel ?_ | refine wOn ?_ | refine wQn ?_); try simp only [thenA_n]) | (refine CallE.pure (cc) rfl ?_) | (refine CallE.lent (cc) rfl ?_) | (refine CallF.pure (cc) rfl ?_) | (refine CallF.lent (cc) rfl ?_) | (refine CallE.own (cc) ?_) | (refine CallH.pure (cc) rfl ?_) | (refine CallH.lent (cc) rfl ?_) | (refine CallH.own (cc) ?_)
   refine hL _ (N - 1) (by omega) ⟨k + 1, _, _, by omega, hsn, ?_⟩
   simp [g5, g6, g21, g22, g23, b19, b20, hw, hp1, hp2]
  | some v =>
   obtain ⟨v1, v2⟩ := v
   rw [hM] at hsn hm2 hbad
   simp only [Option.map_some] at hm2
   by_cases hv : v1 = 0 /\ v2 = 0
   ·obtain ⟨rfl, rfl⟩ := hv
    simp only [if_true] at hsn
    repeat' first | (refine hK _ ?_; clear hK) | (refine hK _ _ ?_; clear hK) | (clear hK; refine hK _ ?_; clear hK) | (clear hK; clear hK; refine hK _ ?_; clear hK) | (clear hK; clear hK; clear hK; refine hK _ ?_; clear hK) | (clear hK; clear hK; clear hK; clear hK; refine hK _ ?_; clear hK) | (refine wSeq fun K hK => ?_) | ((first | refine wReg ?_ | refine wDrwQ rfl (by kernel_rfl) ?_ | refine wDrwI ?_ | refine wDrw (by kernel_rfl) ?_); simp only [List.map_cons, List.map_nil, strip]) | ((first | refine wIs fun K hK => ?_ | refine wOs fun K hK => ?_ | refine wQs fun K hK => ?_ | refine CallK_plain ?_ | refine CallQ_plain ?_ | refine CallR_plain ?_ | refine wCond ?_); simp [g5, g6, g21, g22, g23, b19, b20, hlt, hlt', hw, he, hQ, h44k, h3', h2, hle, hm1, hm2, hp1, hp2]) | (refine wIn ?_; refine And.intro (by kernel_rfl) ?_; try simp only [thenA_n]) | (first | refine wBlock ?_ | refine wScope ?_) | ((first | refine wRet ?_ | refine wExit ?_ | refine wSkip ?_); try simp) | ((first | refine wLabel ?_ | refine wOn ?_ | refine wQn ?_); try simp only [thenA_n]) | (refine CallE.pure (cc) rfl ?_) | (refine CallE.lent (cc) rfl ?_) | (refine CallF.pure (cc) rfl ?_) | (refine CallF.lent (cc) rfl ?_) | (refine CallE.own (cc) ?_) | (refine CallH.pure (cc) rfl ?_) | (refine CallH.lent (cc) rfl ?_) | (refine CallH.own (cc) ?_)
    refine hL _ (N - 1) (by omega) ⟨k + 1, _, _, by omega, hsn, ?_⟩
    simp [g5, g6, g21, g22, g23, b19, b20, hw, hp1, hp2]
   ·have hno := hbad (by simp only [Prod.mk.injEq]; rw [if_neg hv])
    rw [hno] at hr
    have hv' : (v1 == 0 && v2 == 0) = false := by
     rw [Bool.and_eq_false_iff]
     by_cases h1 : v1 = 0
     ·exact .inr (by simpa using fun h2 => hv ⟨h1, h2⟩)
     ·exact .inl (by simpa using h1)
    have hv2 : v1 = 0 -> ¬ v2 = 0 := fun h1 h2 => hv ⟨h1, h2⟩
    repeat' first | (refine hK _ ?_; clear hK) | (refine hK _ _ ?_; clear hK) | (clear hK; refine hK _ ?_; clear hK) | (clear hK; clear hK; refine hK _ ?_; clear hK) | (clear hK; clear hK; clear hK; refine hK _ ?_; clear hK) | (clear hK; clear hK; clear hK; clear hK; refine hK _ ?_; clear hK) | (refine wSeq fun K hK => ?_) | ((first | refine wReg ?_ | refine wDrwQ rfl (by kernel_rfl) ?_ | refine wDrwI ?_ | refine wDrw (by kernel_rfl) ?_); simp only [List.map_cons, List.map_nil, strip]) | ((first | refine wIs fun K hK => ?_ | refine wOs fun K hK => ?_ | refine wQs fun K hK => ?_ | refine CallK_plain ?_ | refine CallQ_plain ?_ | refine CallR_plain ?_ | refine wCond ?_); simp [g5, g6, g21, g22, g23, b19, b20, hlt, hlt', hw, he, hQ, h44k, h3', h2, hle, hm1, hm2, hv, hv', hv2]) | (refine wIn ?_; refine And.intro (by kernel_rfl) ?_; try simp only [thenA_n]) | (first | refine wBlock ?_ | refine wScope ?_) | ((first | refine wRet ?_ | refine wExit ?_ | refine wSkip ?_); try simp) | ((first | refine wLabel ?_ | refine wOn ?_ | refine wQn ?_); try simp only [thenA_n]) | (refine CallE.pure (cc) rfl ?_) | (refine CallE.lent (cc) rfl ?_) | (refine CallF.pure (cc) rfl ?_) | (refine CallF.lent (cc) rfl ?_) | (refine CallE.own (cc) ?_) | (refine CallH.pure (cc) rfl ?_) | (refine CallH.lent (cc) rfl ?_) | (refine CallH.own (cc) ?_)
    all_goals apply hr
    all_goals simp [Try.f10]
 | some w =>
  obtain ⟨wx, wy⟩ := w
  rw [hA] at hm1
  simp only [Option.map_some] at hm1
  have hwas : wasC A f.nd = (wx, wy) := by unfold wasC; rw [hA]; rfl
  rw [hwas] at cc hsn hbad hp2
  simp only at cc hsn hbad
  generalize zcmp f.t.e f.t.n wx wy = z at *
  by_cases hle : z <= 0
  ·rw [if_pos hle] at hbad
   have hno := hbad rfl
   rw [hno] at hr
   repeat' first | (refine hK _ ?_; clear hK) | (refine hK _ _ ?_; clear hK) | (clear hK; refine hK _ ?_; clear hK) | (clear hK; clear hK; refine hK _ ?_; clear hK) | (clear hK; clear hK; clear hK; refine hK _ ?_; clear hK) | (clear hK; clear hK; clear hK; clear hK; refine hK _ ?_; clear hK) | (refine wSeq fun K hK => ?_) | ((first | refine wReg ?_ | refine wDrwQ rfl (by kernel_rfl) ?_ | refine wDrwI ?_ | refine wDrw (by kernel_rfl) ?_); simp only [List.map_cons, List.map_nil, strip]) | ((first | refine wIs fun K hK => ?_ | refine wOs fun K hK => ?_ | refine wQs fun K hK => ?_ | refine CallK_plain ?_ | refine CallQ_plain ?_ | refine CallR_plain ?_ | refine wCond ?_); simp [g5, g6, g21, g22, g23, b19, b20, hlt, hlt', hw, he, hQ, h44k, h3', h2, hle, hm1]) | (refine wIn ?_; refine And.intro (by kernel_rfl) ?_; try simp only [thenA_n]) | (first | refine wBlock ?_ | refine wScope ?_) | ((first | refine wRet ?_ | refine wExit ?_ | refine wSkip ?_); try simp) | ((first | refine wLabel ?_ | refine wOn ?_ | refine wQn ?_); try simp only [thenA_n]) | (refine CallE.pure (cc) rfl ?_) | (refine CallE.lent (cc) rfl ?_) | (refine CallF.pure (cc) rfl ?_) | (refine CallF.lent (cc) rfl ?_) | (refine CallE.own (cc) ?_) | (refine CallH.pure (cc) rfl ?_) | (refine CallH.lent (cc) rfl ?_) | (refine CallH.own (cc) ?_)
   all_goals apply hr
   all_goals simp [Try.f10]
  rw [if_neg hle] at hsn hbad
  cases hM : tl (f.t.e, f.t.n) M with
  | none =>
   rw [hM] at hsn hm2
   simp only [Option.map_none] at hm2
   repeat' first | (refine hK _ ?_; clear hK) | (refine hK _ _ ?_; clear hK) | (clear hK; refine hK _ ?_; clear hK) | (clear hK; clear hK; refine hK _ ?_; clear hK) | (clear hK; clear hK; clear hK; refine hK _ ?_; clear hK) | (clear hK; clear hK; clear hK; clear hK; refine hK _ ?_; clear hK) | (refine wSeq fun K hK => ?_) | ((first | refine wReg ?_ | refine wDrwQ rfl (by kernel_rfl) ?_ | refine wDrwI ?_ | refine wDrw (by kernel_rfl) ?_); simp only [List.map_cons, List.map_nil, strip]) | ((first | refine wIs fun K hK => ?_ | refine wOs fun K hK => ?_ | refine wQs fun K hK => ?_ | refine CallK_plain ?_ | refine CallQ_plain ?_ | refine CallR_plain ?_ | refine wCond ?_); simp [g5, g6, g21, g22, g23, b19, b20, hlt, hlt', hw, he, hQ, h44k, h3', h2, hle, hm1, hm2, hp1, hp2]) | (refine wIn ?_; refine And.intro (by kernel_rfl) ?_; try simp only [thenA_n]) | (first | refine wBlock ?_ | refine wScope ?_) | ((first | refine wRet ?_ | refine wExit ?_ | refine wSkip ?_); try simp) | ((first | refine wLabel ?_ | refine wOn ?_ | refine wQn ?_); try simp only [thenA_n]) | (refine CallE.pure (cc) rfl ?_) | (refine CallE.lent (cc) rfl ?_) | (refine CallF.pure (cc) rfl ?_) | (refine CallF.lent (cc) rfl ?_) | (refine CallE.own (cc) ?_) | (refine CallH.pure (cc) rfl ?_) | (refine CallH.lent (cc) rfl ?_) | (refine CallH.own (cc) ?_)
   refine hL _ (N - 1) (by omega) ⟨k + 1, _, _, by omega, hsn, ?_⟩
   simp [g5, g6, g21, g22, g23, b19, b20, hw, hp1, hp2]
  | some v =>
   obtain ⟨v1, v2⟩ := v
   rw [hM] at hsn hm2 hbad
   simp only [Option.map_some] at hm2
   by_cases hv : v1 = wx /\ v2 = wy
   ·obtain ⟨rfl, rfl⟩ := hv
    simp only [if_true] at hsn
    repeat' first | (refine hK _ ?_; clear hK) | (refine hK _ _ ?_; clear hK) | (clear hK; refine hK _ ?_; clear hK) | (clear hK; clear hK; refine hK _ ?_; clear hK) | (clear hK; clear hK; clear hK; refine hK _ ?_; clear hK) | (clear hK; clear hK; clear hK; clear hK; refine hK _ ?_; clear hK) | (refine wSeq fun K hK => ?_) | ((first | refine wReg ?_ | refine wDrwQ rfl (by kernel_rfl) ?_ | refine wDrwI ?_ | refine wDrw (by kernel_rfl) ?_); simp only [List.map_cons, List.map_nil, strip]) | ((first | refine wIs fun K hK => ?_ | refine wOs fun K hK => ?_ | refine wQs fun K hK => ?_ | refine CallK_plain ?_ | refine CallQ_plain ?_ | refine CallR_plain ?_ | refine wCond ?_); simp [g5, g6, g21, g22, g23, b19, b20, hlt, hlt', hw, he, hQ, h44k, h3', h2, hle, hm1, hm2, hp1, hp2]) | (refine wIn ?_; refine And.intro (by kernel_rfl) ?_; try simp only [thenA_n]) | (first | refine wBlock ?_ | refine wScope ?_) | ((first | refine wRet ?_ | refine wExit ?_ | refine wSkip ?_); try simp) | ((first | refine wLabel ?_ | refine wOn ?_ | refine wQn ?_); try simp only [thenA_n]) | (refine CallE.pure (cc) rfl ?_) | (refine CallE.lent (cc) rfl ?_) | (refine CallF.pure (cc) rfl ?_) | (refine CallF.lent (cc) rfl ?_) | (refine CallE.own (cc) ?_) | (refine CallH.pure (cc) rfl ?_) | (refine CallH.lent (cc) rfl ?_) | (refine CallH.own (cc) ?_)
    refine hL _ (N - 1) (by omega) ⟨k + 1, _, _, by omega, hsn, ?_⟩
    simp [g5, g6, g21, g22, g23, b19, b20, hw, hp1, hp2]
   ·have hno := hbad (by simp only [Prod.mk.injEq]; rw [if_neg hv])
    rw [hno] at hr
    have hv' : (v1 == wx && v2 == wy) = false := by
     rw [Bool.and_eq_false_iff]
     by_cases h1 : v1 = wx
     ·exact .inr (by simpa using fun h2 => hv ⟨h1, h2⟩)
     ·exact .inl (by simpa using h1)
    have hv2 : v1 = wx -> ¬ v2 = wy := fun h1 h2 => hv ⟨h1, h2⟩
    repeat' first | (refine hK _ ?_; clear hK) | (refine hK _ _ ?_; clear hK) | (clear hK; refine hK _ ?_; clear hK) | (clear hK; clear hK; refine hK _ ?_; clear hK) | (clear hK; clear hK; clear hK; refine hK _ ?_; clear hK) | (clear hK; clear hK; clear hK; clear hK; refine hK _ ?_; clear hK) | (refine wSeq fun K hK => ?_) | ((first | refine wReg ?_ | refine wDrwQ rfl (by kernel_rfl) ?_ | refine wDrwI ?_ | refine wDrw (by kernel_rfl) ?_); simp only [List.map_cons, List.map_nil, strip]) | ((first | refine wIs fun K hK => ?_ | refine wOs fun K hK => ?_ | refine wQs fun K hK => ?_ | refine CallK_plain ?_ | refine CallQ_plain ?_ | refine CallR_plain ?_ | refine wCond ?_); simp [g5, g6, g21, g22, g23, b19, b20, hlt, hlt', hw, he, hQ, h44k, h3', h2, hle, hm1, hm2, hv, hv', hv2]) | (refine wIn ?_; refine And.intro (by kernel_rfl) ?_; try simp only [thenA_n]) | (first | refine wBlock ?_ | refine wScope ?_) | ((first | refine wRet ?_ | refine wExit ?_ | refine wSkip ?_); try simp) | ((first | refine wLabel ?_ | refine wOn ?_ | refine wQn ?_); try simp only [thenA_n]) | (refine CallE.pure (cc) rfl ?_) | (refine CallE.lent (cc) rfl ?_) | (refine CallF.pure (cc) rfl ?_) | (refine CallF.lent (cc) rfl ?_) | (refine CallE.own (cc) ?_) | (refine CallH.pure (cc) rfl ?_) | (refine CallH.lent (cc) rfl ?_) | (refine CallH.own (cc) ?_)
    all_goals apply hr
    all_goals simp [Try.f10]
def mx (T : List Tx) (e : Int) : Int := T.foldl (fun n t => if t.e = e then max n t.n else n) 0
theorem mx_snoc (T : List Tx) (t : Tx) (e : Int) : mx (T ++ [t]) e = if t.e = e then max (mx T e) t.n else mx T e := by
 unfold mx; rw [List.foldl_append]; rfl
theorem mx_ge (T : List Tx) (e : Int) : 0 <= mx T e /\ ∀ t ∈ T, t.e = e -> t.n <= mx T e := by
 have : ∀ (T : List Tx) (n : Int), n <= T.foldl (fun n t => if t.e = e then max n t.n else n) n /\ ∀ t ∈ T, t.e = e -> t.n <= T.foldl (fun n t => if t.e = e then max n t.n else n) n := by
  intro T
  induction T with
  | nil => intro n; simp
  | cons x T ih =>
   intro n
   obtain ⟨h1, h2⟩ := ih (if x.e = e then max n x.n else n)
   simp only [List.foldl_cons]
   refine ⟨?_, fun t ht he => ?_⟩
   ·split at h1
    ·rename_i h; rw [if_pos h]; omega
    ·rename_i h; rw [if_neg h]; omega
   ·rcases List.mem_cons.1 ht with rfl | ht
    ·rw [if_pos he] at h1 ⊢; omega
    ·exact h2 t ht he
 exact this T 0
def stQ (T : List Tx) (f : Fa) : Option (List Tx) :=
 if f.kd = 1 then if f.t.e = f.ep /\ owner f.ep = f.nd /\ f.t.n = mx T f.ep + 1 then some (T ++ [f.t]) else none
 else if f.kd = 2 then match fz T f.t.e f.t.n with
  | some i => if T[i]? = some f.t then some T else none
  | none => none
 else some T
def prQ (l : List Fa) : Option (List Tx) := l.foldl (fun o f => o.bind (stQ · f)) (some [])
theorem prQ_snoc {l : List Fa} {k : Nat} (h : k < l.length) : prQ (l.take (k + 1)) = (prQ (l.take k)).bind (stQ · l[k]) := by
 rw [List.take_succ_eq_append_getElem h]
 unfold prQ
 rw [List.foldl_append]; rfl
theorem prQ_none {l : List Fa} {k : Nat} (h : prQ (l.take k) = none) : prQ l = none := by
 have h2 : l = l.take k ++ l.drop k := (List.take_append_drop k l).symm
 unfold prQ at h ⊢
 rw [h2, List.foldl_append, h]
 generalize l.drop k = m
 induction m with
 | nil => rfl
 | cons f m ih => simpa using ih
def primB (l : List Fa) : Bool := (prQ l).isSome
theorem fz_none {T : List Tx} {e n : Int} (h : ∀ t ∈ T, ¬ (t.e = e /\ t.n = n)) : fz T e n = none := by
 unfold fz
 rw [List.findIdx?_eq_none_iff]
 intro x hx
 simpa using h x hx
theorem fz_app (T : List Tx) (t : Tx) (e n : Int) : fz (T ++ [t]) e n = match fz T e n with
 | some i => some i
 | none => if t.e = e /\ t.n = n then some T.length else none := by
 unfold fz
 rw [List.findIdx?_append]
 cases T.findIdx? fun t => decide (t.e = e /\ t.n = n) with
 | some i => rfl
 | none =>
  simp only [Option.none_or, List.findIdx?_cons, List.findIdx?_nil]
  by_cases h : t.e = e /\ t.n = n
  ·simp [h]
  ·simp [h]
structure PInv (l : List Fa) (k : Nat) (T : List Tx) (La : List (Int × Int)) (Ma : List ((Int × Int) × Nat)) : Prop where
 len : T.length <= k
 bd : ∀ e, mx T e <= T.length
 la : ∀ e, (tl e La).getD 0 = mx T e
 so : ∀ z j, tl z Ma = some j -> ∃ hj : j < l.length, ∃ i, fz T z.1 z.2 = some i /\ T[i]? = some l[j].t
 no : ∀ z, tl z Ma = none -> fz T z.1 z.2 = none
theorem PInv.made {l : List Fa} {k : Nat} {T : List Tx} {La : List (Int × Int)} {Ma : List ((Int × Int) × Nat)} (h : PInv l k T La Ma) (hk : k < l.length) (he : l[k].t.e = l[k].ep) (hn : l[k].t.n = mx T l[k].ep + 1) :
 PInv l (k + 1) (T ++ [l[k].t]) (tp l[k].ep l[k].t.n La) (tp (l[k].t.e, l[k].t.n) k Ma) := by
 have hnone : fz T l[k].t.e l[k].t.n = none := fz_none fun t ht ⟨h1, h2⟩ => by
  have := (mx_ge T l[k].ep).2 t ht (by rw [h1, he])
  omega
 have hb := h.bd l[k].ep
 refine ⟨by have := h.len; simp; omega, fun e => ?_, fun e => ?_, fun z j hz => ?_, fun z hz => ?_⟩
 ·have := h.bd e
  rw [mx_snoc, List.length_append]
  split
  ·rename_i h1
   rw [<- h1, he] at this ⊢
   simp only [List.length_cons, List.length_nil]; omega
  ·simp only [List.length_cons, List.length_nil]; omega
 ·rw [tl_tp, mx_snoc]
  by_cases h1 : e = l[k].ep
  ·rw [if_pos h1, if_pos (by rw [he, h1])]
   subst h1
   simp only [Option.getD_some]; omega
  ·rw [if_neg h1, if_neg (fun h2 => h1 (by rw [<- h2, he]))]
   exact h.la e
 ·rw [tl_tp] at hz
  by_cases h1 : z = (l[k].t.e, l[k].t.n)
  ·rw [if_pos h1] at hz
   simp only [Option.some.injEq] at hz
   subst hz h1
   refine ⟨hk, T.length, ?_, by simp⟩
   rw [fz_app]
   simp only [hnone]
   simp
  ·rw [if_neg h1] at hz
   obtain ⟨hj, i, h2, h3⟩ := h.so z j hz
   refine ⟨hj, i, by rw [fz_app, h2], ?_⟩
   have hi : i < T.length := (List.getElem?_eq_some_iff.1 h3).1
   rw [List.getElem?_append_left hi]; exact h3
 ·rw [tl_tp] at hz
  by_cases h1 : z = (l[k].t.e, l[k].t.n)
  ·rw [if_pos h1] at hz; cases hz
  ·rw [if_neg h1] at hz
   rw [fz_app, h.no z hz]
   simp only
   rw [if_neg]
   intro h2
   exact h1 (Prod.ext h2.1.symm h2.2.symm)
theorem PInv.same {l : List Fa} {k : Nat} {T : List Tx} {La : List (Int × Int)} {Ma : List ((Int × Int) × Nat)} (h : PInv l k T La Ma) : PInv l (k + 1) T La Ma := ⟨by have := h.len; omega, h.bd, h.la, h.so, h.no⟩
abbrev vN (n : Nat) : PV := I ((n : Nat) : Int)
set_option maxHeartbeats 16000000 in
theorem prim_con (l : List Fa) (h44 : ∀ f ∈ l, f.r.length = 44) (hl : l.length <= 1000) : ACon Try.prog 7 [.p (.sl 58 (fas l))] (.p (B (primB l))) := by
 unfold primB
 refine wBody Try.tab Try.mixed Try.func7 rfl rfl Try.ntmps7 (by simp) (by simp) fun Q hr hn => ?_
 repeat' first | (refine hK _ ?_; clear hK) | (refine hK _ _ ?_; clear hK) | (clear hK; refine hK _ ?_; clear hK) | (clear hK; clear hK; refine hK _ ?_; clear hK) | (clear hK; clear hK; clear hK; refine hK _ ?_; clear hK) | (clear hK; clear hK; clear hK; clear hK; refine hK _ ?_; clear hK) | (refine wSeq fun K hK => ?_) | ((first | refine wReg ?_ | refine wDrwQ rfl (by kernel_rfl) ?_ | refine wDrwI ?_ | refine wDrw (by kernel_rfl) ?_); simp only [List.map_cons, List.map_nil, strip]) | ((first | refine wIs fun K hK => ?_ | refine wOs fun K hK => ?_ | refine wQs fun K hK => ?_ | refine CallK_plain ?_ | refine CallQ_plain ?_ | refine CallR_plain ?_ | refine wCond ?_); simp) | (refine wIn ?_; refine And.intro (by kernel_rfl) ?_; try simp only [thenA_n]) | (first | refine wBlock ?_ | refine wScope ?_) | ((first | refine wRet ?_ | refine wExit ?_ | refine wSkip ?_); try simp) | ((first | refine wLabel ?_ | refine wOn ?_ | refine wQn ?_); try simp only [thenA_n])
 refine wLoop (fun N st => ∃ k T La Ma, k + N = l.length /\ prQ (l.take k) = some T /\ PInv l k T La Ma /\ st.s 3 = .row 10 /\ st.b 10 = some (.mp (.i .i64) (tm kI kI La)) /\ st.s 4 = .row 11 /\ st.b 11 = some (.mp KZ (tm kP vN Ma)) /\ st.s 0 = .p (.sl 58 (fas l)) /\ st.s 12 = .p (.sl 58 (fas l)) /\ st.s 13 = .p (I l.length) /\ st.s 14 = .p (I k)) l.length ⟨0, [], [], [], by omega, by simp [prQ], ⟨by simp, fun e => by simp [mx], fun e => by simp [tl, mx], fun z j h => by simp [tl] at h, fun z h => by simp [fz]⟩, by simp [tm]⟩ fun K N st hL ⟨k, T, La, Ma, hk, hT, hI, g3, b10, g4, b11, g0, g12, g13, g14⟩ => ?_
 by_cases hlt : k < l.length
 case neg =>
  have hlt' : ¬ (k : Int) < l.length := by omega
  rw [List.take_of_length_le (by omega)] at hT
  rw [hT] at hr
  repeat' first | (refine hK _ ?_; clear hK) | (refine hK _ _ ?_; clear hK) | (clear hK; refine hK _ ?_; clear hK) | (clear hK; clear hK; refine hK _ ?_; clear hK) | (clear hK; clear hK; clear hK; refine hK _ ?_; clear hK) | (clear hK; clear hK; clear hK; clear hK; refine hK _ ?_; clear hK) | (refine wSeq fun K hK => ?_) | ((first | refine wReg ?_ | refine wDrwQ rfl (by kernel_rfl) ?_ | refine wDrwI ?_ | refine wDrw (by kernel_rfl) ?_); simp only [List.map_cons, List.map_nil, strip]) | ((first | refine wIs fun K hK => ?_ | refine wOs fun K hK => ?_ | refine wQs fun K hK => ?_ | refine CallK_plain ?_ | refine CallQ_plain ?_ | refine CallR_plain ?_ | refine wCond ?_); simp [g0, g3, g4, g12, g13, g14, b10, b11, hlt, hlt']) | (refine wIn ?_; refine And.intro (by kernel_rfl) ?_; try simp only [thenA_n]) | (first | refine wBlock ?_ | refine wScope ?_) | ((first | refine wRet ?_ | refine wExit ?_ | refine wSkip ?_); try simp) | ((first | refine wLabel ?_ | refine wOn ?_ | refine wQn ?_); try simp only [thenA_n])
  all_goals apply hr
  all_goals simp [Try.f7]
 have hlt' : (k : Int) < l.length := by omega
 have hw := wrapS k _ hlt (by omega)
 have he := fas_get hlt
 have hsn := prQ_snoc hlt
 rw [hT] at hsn
 simp only [Option.bind_some] at hsn
 have h44k := h44 _ (List.getElem_mem hlt)
 have hbad : stQ T l[k] = none -> prQ l = none := fun h => prQ_none (k := k + 1) (by rw [hsn, h])
 have hmade := hI.made hlt
 have hsame := hI.same
 have hla := hI.la
 have hbd := hI.bd
 have hge := mx_ge T
 have hso := hI.so
 have hno := hI.no
 have hlen := hI.len
 have hp1 := fun a b => mput_tm (vf := kI) hkI a b La
 have hp2 := fun a b => mput_tm (vf := vN) hkP a b Ma
 have hm1 := fun a => mlk_tm (vf := kI) hkI a La
 have hm2 := fun a => mlk_tm (vf := vN) hkP a Ma
 generalize hQ : l[k] = f at *
 unfold stQ at hsn hbad
 by_cases h1 : f.kd = 1
 ·rw [if_pos h1] at hsn hbad
  have co := owner_con f.ep
  have hla1 := hla f.ep
  have hbd1 := hbd f.ep
  have hge1 := (hge f.ep).1
  have hm1' := hm1 f.ep
  have hp1' := hp1 f.ep f.t.n
  have hp2' := hp2 (f.t.e, f.t.n) k
  clear hm1 hm2 hp1 hp2 hso hno hla hbd hge hsame
  by_cases c1 : f.t.e = f.ep
  case neg =>
   have hN := hbad (by rw [if_neg fun h => c1 h.1])
   rw [hN] at hr
   have c1' := eq_false c1
   repeat' first | (refine hK _ ?_; clear hK) | (refine hK _ _ ?_; clear hK) | (clear hK; refine hK _ ?_; clear hK) | (clear hK; clear hK; refine hK _ ?_; clear hK) | (clear hK; clear hK; clear hK; refine hK _ ?_; clear hK) | (clear hK; clear hK; clear hK; clear hK; refine hK _ ?_; clear hK) | (refine wSeq fun K hK => ?_) | ((first | refine wReg ?_ | refine wDrwQ rfl (by kernel_rfl) ?_ | refine wDrwI ?_ | refine wDrw (by kernel_rfl) ?_); simp only [List.map_cons, List.map_nil, strip]) | ((first | refine wIs fun K hK => ?_ | refine wOs fun K hK => ?_ | refine wQs fun K hK => ?_ | refine CallK_plain ?_ | refine CallQ_plain ?_ | refine CallR_plain ?_ | refine wCond ?_); simp [g0, g3, g4, g12, g13, g14, b10, b11, hlt, hlt', hw, he, hQ, h44k, h1, c1', c1]) | (refine wIn ?_; refine And.intro (by kernel_rfl) ?_; try simp only [thenA_n]) | (first | refine wBlock ?_ | refine wScope ?_) | ((first | refine wRet ?_ | refine wExit ?_ | refine wSkip ?_); try simp) | ((first | refine wLabel ?_ | refine wOn ?_ | refine wQn ?_); try simp only [thenA_n]) | (refine CallE.pure (co) rfl ?_) | (refine CallE.lent (co) rfl ?_) | (refine CallF.pure (co) rfl ?_) | (refine CallF.lent (co) rfl ?_) | (refine CallE.own (co) ?_) | (refine CallH.pure (co) rfl ?_) | (refine CallH.lent (co) rfl ?_) | (refine CallH.own (co) ?_)
   all_goals apply hr
   all_goals simp [Try.f7]
  have c1t := eq_true c1
  by_cases c2 : owner f.ep = f.nd
  case neg =>
   have hN := hbad (by rw [if_neg fun h => c2 h.2.1])
   rw [hN] at hr
   have c2' := eq_false c2
   repeat' first | (refine hK _ ?_; clear hK) | (refine hK _ _ ?_; clear hK) | (clear hK; refine hK _ ?_; clear hK) | (clear hK; clear hK; refine hK _ ?_; clear hK) | (clear hK; clear hK; clear hK; refine hK _ ?_; clear hK) | (clear hK; clear hK; clear hK; clear hK; refine hK _ ?_; clear hK) | (refine wSeq fun K hK => ?_) | ((first | refine wReg ?_ | refine wDrwQ rfl (by kernel_rfl) ?_ | refine wDrwI ?_ | refine wDrw (by kernel_rfl) ?_); simp only [List.map_cons, List.map_nil, strip]) | ((first | refine wIs fun K hK => ?_ | refine wOs fun K hK => ?_ | refine wQs fun K hK => ?_ | refine CallK_plain ?_ | refine CallQ_plain ?_ | refine CallR_plain ?_ | refine wCond ?_); simp [g0, g3, g4, g12, g13, g14, b10, b11, hlt, hlt', hw, he, hQ, h44k, h1, c1t, c2', c2]) | (refine wIn ?_; refine And.intro (by kernel_rfl) ?_; try simp only [thenA_n]) | (first | refine wBlock ?_ | refine wScope ?_) | ((first | refine wRet ?_ | refine wExit ?_ | refine wSkip ?_); try simp) | ((first | refine wLabel ?_ | refine wOn ?_ | refine wQn ?_); try simp only [thenA_n]) | (refine CallE.pure (co) rfl ?_) | (refine CallE.lent (co) rfl ?_) | (refine CallF.pure (co) rfl ?_) | (refine CallF.lent (co) rfl ?_) | (refine CallE.own (co) ?_) | (refine CallH.pure (co) rfl ?_) | (refine CallH.lent (co) rfl ?_) | (refine CallH.own (co) ?_)
   all_goals apply hr
   all_goals simp [Try.f7]
  cases hLa : tl f.ep La with
  | none =>
   rw [hLa] at hm1' hla1
   simp only [Option.map_none, Option.getD_none] at hm1' hla1
   rw [<- hla1] at hsn hbad hmade hbd1
   have hwv : IntKind.i64.wrap 1 = 1 := by decide
   by_cases c3 : f.t.n = 1
   case neg =>
    have hN := hbad (by rw [if_neg fun h => c3 (by have := h.2.2; omega)])
    rw [hN] at hr
    have c3' := eq_false c3
    repeat' first | (refine hK _ ?_; clear hK) | (refine hK _ _ ?_; clear hK) | (clear hK; refine hK _ ?_; clear hK) | (clear hK; clear hK; refine hK _ ?_; clear hK) | (clear hK; clear hK; clear hK; refine hK _ ?_; clear hK) | (clear hK; clear hK; clear hK; clear hK; refine hK _ ?_; clear hK) | (refine wSeq fun K hK => ?_) | ((first | refine wReg ?_ | refine wDrwQ rfl (by kernel_rfl) ?_ | refine wDrwI ?_ | refine wDrw (by kernel_rfl) ?_); simp only [List.map_cons, List.map_nil, strip]) | ((first | refine wIs fun K hK => ?_ | refine wOs fun K hK => ?_ | refine wQs fun K hK => ?_ | refine CallK_plain ?_ | refine CallQ_plain ?_ | refine CallR_plain ?_ | refine wCond ?_); simp [g0, g3, g4, g12, g13, g14, b10, b11, hlt, hlt', hw, he, hQ, h44k, h1, c1t, c2, hm1', hwv, c3', c3]) | (refine wIn ?_; refine And.intro (by kernel_rfl) ?_; try simp only [thenA_n]) | (first | refine wBlock ?_ | refine wScope ?_) | ((first | refine wRet ?_ | refine wExit ?_ | refine wSkip ?_); try simp) | ((first | refine wLabel ?_ | refine wOn ?_ | refine wQn ?_); try simp only [thenA_n]) | (refine CallE.pure (co) rfl ?_) | (refine CallE.lent (co) rfl ?_) | (refine CallF.pure (co) rfl ?_) | (refine CallF.lent (co) rfl ?_) | (refine CallE.own (co) ?_) | (refine CallH.pure (co) rfl ?_) | (refine CallH.lent (co) rfl ?_) | (refine CallH.own (co) ?_)
    all_goals apply hr
    all_goals simp [Try.f7]
   have c3t := eq_true c3
   rw [if_pos ⟨c1, c2, by omega⟩] at hsn
   repeat' first | (refine hK _ ?_; clear hK) | (refine hK _ _ ?_; clear hK) | (clear hK; refine hK _ ?_; clear hK) | (clear hK; clear hK; refine hK _ ?_; clear hK) | (clear hK; clear hK; clear hK; refine hK _ ?_; clear hK) | (clear hK; clear hK; clear hK; clear hK; refine hK _ ?_; clear hK) | (refine wSeq fun K hK => ?_) | ((first | refine wReg ?_ | refine wDrwQ rfl (by kernel_rfl) ?_ | refine wDrwI ?_ | refine wDrw (by kernel_rfl) ?_); simp only [List.map_cons, List.map_nil, strip]) | ((first | refine wIs fun K hK => ?_ | refine wOs fun K hK => ?_ | refine wQs fun K hK => ?_ | refine CallK_plain ?_ | refine CallQ_plain ?_ | refine CallR_plain ?_ | refine wCond ?_); simp [g0, g3, g4, g12, g13, g14, b10, b11, hlt, hlt', hw, he, hQ, h44k, h1, c1t, c2, hm1', hwv, c3t, hp1', hp2']) | (refine wIn ?_; refine And.intro (by kernel_rfl) ?_; try simp only [thenA_n]) | (first | refine wBlock ?_ | refine wScope ?_) | ((first | refine wRet ?_ | refine wExit ?_ | refine wSkip ?_); try simp) | ((first | refine wLabel ?_ | refine wOn ?_ | refine wQn ?_); try simp only [thenA_n]) | (refine CallE.pure (co) rfl ?_) | (refine CallE.lent (co) rfl ?_) | (refine CallF.pure (co) rfl ?_) | (refine CallF.lent (co) rfl ?_) | (refine CallE.own (co) ?_) | (refine CallH.pure (co) rfl ?_) | (refine CallH.lent (co) rfl ?_) | (refine CallH.own (co) ?_)
   refine hL _ (N - 1) (by omega) ⟨k + 1, _, _, _, by omega, hsn, hmade c1 (by omega), ?_⟩
   simp [g0, g3, g4, g12, g13, g14, b10, b11, hw, hp1', hp2']
  | some w =>
   rw [hLa] at hm1' hla1
   simp only [Option.map_some, Option.getD_some] at hm1' hla1
   rw [<- hla1] at hsn hbad hmade hbd1 hge1
   have hwv : IntKind.i64.wrap (w + 1) = w + 1 := by rw [wrap_id] <;> omega
   by_cases c3 : f.t.n = w + 1
   case neg =>
    have hN := hbad (by rw [if_neg fun h => c3 h.2.2])
    rw [hN] at hr
    have c3' := eq_false c3
    repeat' first | (refine hK _ ?_; clear hK) | (refine hK _ _ ?_; clear hK) | (clear hK; refine hK _ ?_; clear hK) | (clear hK; clear hK; refine hK _ ?_; clear hK) | (clear hK; clear hK; clear hK; refine hK _ ?_; clear hK) | (clear hK; clear hK; clear hK; clear hK; refine hK _ ?_; clear hK) | (refine wSeq fun K hK => ?_) | ((first | refine wReg ?_ | refine wDrwQ rfl (by kernel_rfl) ?_ | refine wDrwI ?_ | refine wDrw (by kernel_rfl) ?_); simp only [List.map_cons, List.map_nil, strip]) | ((first | refine wIs fun K hK => ?_ | refine wOs fun K hK => ?_ | refine wQs fun K hK => ?_ | refine CallK_plain ?_ | refine CallQ_plain ?_ | refine CallR_plain ?_ | refine wCond ?_); simp [g0, g3, g4, g12, g13, g14, b10, b11, hlt, hlt', hw, he, hQ, h44k, h1, c1t, c2, hm1', hwv, c3', c3]) | (refine wIn ?_; refine And.intro (by kernel_rfl) ?_; try simp only [thenA_n]) | (first | refine wBlock ?_ | refine wScope ?_) | ((first | refine wRet ?_ | refine wExit ?_ | refine wSkip ?_); try simp) | ((first | refine wLabel ?_ | refine wOn ?_ | refine wQn ?_); try simp only [thenA_n]) | (refine CallE.pure (co) rfl ?_) | (refine CallE.lent (co) rfl ?_) | (refine CallF.pure (co) rfl ?_) | (refine CallF.lent (co) rfl ?_) | (refine CallE.own (co) ?_) | (refine CallH.pure (co) rfl ?_) | (refine CallH.lent (co) rfl ?_) | (refine CallH.own (co) ?_)
    all_goals apply hr
    all_goals simp [Try.f7]
   have c3t := eq_true c3
   rw [if_pos ⟨c1, c2, c3⟩] at hsn
   repeat' first | (refine hK _ ?_; clear hK) | (refine hK _ _ ?_; clear hK) | (clear hK; refine hK _ ?_; clear hK) | (clear hK; clear hK; refine hK _ ?_; clear hK) | (clear hK; clear hK; clear hK; refine hK _ ?_; clear hK) | (clear hK; clear hK; clear hK; clear hK; refine hK _ ?_; clear hK) | (refine wSeq fun K hK => ?_) | ((first | refine wReg ?_ | refine wDrwQ rfl (by kernel_rfl) ?_ | refine wDrwI ?_ | refine wDrw (by kernel_rfl) ?_); simp only [List.map_cons, List.map_nil, strip]) | ((first | refine wIs fun K hK => ?_ | refine wOs fun K hK => ?_ | refine wQs fun K hK => ?_ | refine CallK_plain ?_ | refine CallQ_plain ?_ | refine CallR_plain ?_ | refine wCond ?_); simp [g0, g3, g4, g12, g13, g14, b10, b11, hlt, hlt', hw, he, hQ, h44k, h1, c1t, c2, hm1', hwv, c3t, hp1', hp2']) | (refine wIn ?_; refine And.intro (by kernel_rfl) ?_; try simp only [thenA_n]) | (first | refine wBlock ?_ | refine wScope ?_) | ((first | refine wRet ?_ | refine wExit ?_ | refine wSkip ?_); try simp) | ((first | refine wLabel ?_ | refine wOn ?_ | refine wQn ?_); try simp only [thenA_n]) | (refine CallE.pure (co) rfl ?_) | (refine CallE.lent (co) rfl ?_) | (refine CallF.pure (co) rfl ?_) | (refine CallF.lent (co) rfl ?_) | (refine CallE.own (co) ?_) | (refine CallH.pure (co) rfl ?_) | (refine CallH.lent (co) rfl ?_) | (refine CallH.own (co) ?_)
   refine hL _ (N - 1) (by omega) ⟨k + 1, _, _, _, by omega, hsn, hmade c1 c3, ?_⟩
   simp [g0, g3, g4, g12, g13, g14, b10, b11, hw, hp1', hp2']
 rw [if_neg h1] at hsn hbad
 have h1' := eq_false h1
 clear hmade hp1 hp2 hm1
 by_cases h2 : f.kd = 2
 case neg =>
  have h2' := eq_false h2
  rw [if_neg h2] at hsn
  repeat' first | (refine hK _ ?_; clear hK) | (refine hK _ _ ?_; clear hK) | (clear hK; refine hK _ ?_; clear hK) | (clear hK; clear hK; refine hK _ ?_; clear hK) | (clear hK; clear hK; clear hK; refine hK _ ?_; clear hK) | (clear hK; clear hK; clear hK; clear hK; refine hK _ ?_; clear hK) | (refine wSeq fun K hK => ?_) | ((first | refine wReg ?_ | refine wDrwQ rfl (by kernel_rfl) ?_ | refine wDrwI ?_ | refine wDrw (by kernel_rfl) ?_); simp only [List.map_cons, List.map_nil, strip]) | ((first | refine wIs fun K hK => ?_ | refine wOs fun K hK => ?_ | refine wQs fun K hK => ?_ | refine CallK_plain ?_ | refine CallQ_plain ?_ | refine CallR_plain ?_ | refine wCond ?_); simp [g0, g3, g4, g12, g13, g14, b10, b11, hlt, hlt', hw, he, hQ, h44k, h1', h2', h1, h2]) | (refine wIn ?_; refine And.intro (by kernel_rfl) ?_; try simp only [thenA_n]) | (first | refine wBlock ?_ | refine wScope ?_) | ((first | refine wRet ?_ | refine wExit ?_ | refine wSkip ?_); try simp) | ((first | refine wLabel ?_ | refine wOn ?_ | refine wQn ?_); try simp only [thenA_n])
  refine hL _ (N - 1) (by omega) ⟨k + 1, _, _, _, by omega, hsn, hsame, ?_⟩
  simp [g0, g3, g4, g12, g13, g14, b10, b11, hw]
 rw [if_pos h2] at hsn hbad
 have hm2' := hm2 (f.t.e, f.t.n)
 cases hMa : tl (f.t.e, f.t.n) Ma with
 | none =>
  rw [hMa] at hm2'
  simp only [Option.map_none] at hm2'
  have hf := hno _ hMa
  simp only at hf
  rw [hf] at hbad
  have hN := hbad rfl
  rw [hN] at hr
  repeat' first | (refine hK _ ?_; clear hK) | (refine hK _ _ ?_; clear hK) | (clear hK; refine hK _ ?_; clear hK) | (clear hK; clear hK; refine hK _ ?_; clear hK) | (clear hK; clear hK; clear hK; refine hK _ ?_; clear hK) | (clear hK; clear hK; clear hK; clear hK; refine hK _ ?_; clear hK) | (refine wSeq fun K hK => ?_) | ((first | refine wReg ?_ | refine wDrwQ rfl (by kernel_rfl) ?_ | refine wDrwI ?_ | refine wDrw (by kernel_rfl) ?_); simp only [List.map_cons, List.map_nil, strip]) | ((first | refine wIs fun K hK => ?_ | refine wOs fun K hK => ?_ | refine wQs fun K hK => ?_ | refine CallK_plain ?_ | refine CallQ_plain ?_ | refine CallR_plain ?_ | refine wCond ?_); simp [g0, g3, g4, g12, g13, g14, b10, b11, hlt, hlt', hw, he, hQ, h44k, h1', h2, hm2']) | (refine wIn ?_; refine And.intro (by kernel_rfl) ?_; try simp only [thenA_n]) | (first | refine wBlock ?_ | refine wScope ?_) | ((first | refine wRet ?_ | refine wExit ?_ | refine wSkip ?_); try simp) | ((first | refine wLabel ?_ | refine wOn ?_ | refine wQn ?_); try simp only [thenA_n])
  all_goals apply hr
  all_goals simp [Try.f7]
 | some j =>
  rw [hMa] at hm2'
  simp only [Option.map_some] at hm2'
  obtain ⟨hj, i, hf, hi⟩ := hso _ _ hMa
  simp only at hf
  rw [hf] at hsn hbad
  simp only [hi, Option.some.injEq] at hsn hbad
  have hej := fas_get hj
  have hj' : (j : Int) < l.length := by omega
  have hj44 := h44 _ (List.getElem_mem hj)
  have cc := sameT_con l[j].t f.t
  unfold Tx.cells at cc
  by_cases hs : l[j].t = f.t
  ·rw [if_pos hs] at hsn
   rw [decide_eq_true hs] at cc
   repeat' first | (refine hK _ ?_; clear hK) | (refine hK _ _ ?_; clear hK) | (clear hK; refine hK _ ?_; clear hK) | (clear hK; clear hK; refine hK _ ?_; clear hK) | (clear hK; clear hK; clear hK; refine hK _ ?_; clear hK) | (clear hK; clear hK; clear hK; clear hK; refine hK _ ?_; clear hK) | (refine wSeq fun K hK => ?_) | ((first | refine wReg ?_ | refine wDrwQ rfl (by kernel_rfl) ?_ | refine wDrwI ?_ | refine wDrw (by kernel_rfl) ?_); simp only [List.map_cons, List.map_nil, strip]) | ((first | refine wIs fun K hK => ?_ | refine wOs fun K hK => ?_ | refine wQs fun K hK => ?_ | refine CallK_plain ?_ | refine CallQ_plain ?_ | refine CallR_plain ?_ | refine wCond ?_); simp [g0, g3, g4, g12, g13, g14, b10, b11, hlt, hlt', hw, he, hQ, h44k, h1', h2, hm2', hj, hj', hej, hj44]) | (refine wIn ?_; refine And.intro (by kernel_rfl) ?_; try simp only [thenA_n]) | (first | refine wBlock ?_ | refine wScope ?_) | ((first | refine wRet ?_ | refine wExit ?_ | refine wSkip ?_); try simp) | ((first | refine wLabel ?_ | refine wOn ?_ | refine wQn ?_); try simp only [thenA_n]) | (refine CallE.pure (cc) rfl ?_) | (refine CallE.lent (cc) rfl ?_) | (refine CallF.pure (cc) rfl ?_) | (refine CallF.lent (cc) rfl ?_) | (refine CallE.own (cc) ?_) | (refine CallH.pure (cc) rfl ?_) | (refine CallH.lent (cc) rfl ?_) | (refine CallH.own (cc) ?_)
   refine hL _ (N - 1) (by omega) ⟨k + 1, _, _, _, by omega, hsn, hsame, ?_⟩
   simp [g0, g3, g4, g12, g13, g14, b10, b11, hw]
  ·have hN := hbad (by rw [if_neg hs])
   rw [hN] at hr
   rw [decide_eq_false hs] at cc
   repeat' first | (refine hK _ ?_; clear hK) | (refine hK _ _ ?_; clear hK) | (clear hK; refine hK _ ?_; clear hK) | (clear hK; clear hK; refine hK _ ?_; clear hK) | (clear hK; clear hK; clear hK; refine hK _ ?_; clear hK) | (clear hK; clear hK; clear hK; clear hK; refine hK _ ?_; clear hK) | (refine wSeq fun K hK => ?_) | ((first | refine wReg ?_ | refine wDrwQ rfl (by kernel_rfl) ?_ | refine wDrwI ?_ | refine wDrw (by kernel_rfl) ?_); simp only [List.map_cons, List.map_nil, strip]) | ((first | refine wIs fun K hK => ?_ | refine wOs fun K hK => ?_ | refine wQs fun K hK => ?_ | refine CallK_plain ?_ | refine CallQ_plain ?_ | refine CallR_plain ?_ | refine wCond ?_); simp [g0, g3, g4, g12, g13, g14, b10, b11, hlt, hlt', hw, he, hQ, h44k, h1', h2, hm2', hj, hj', hej, hj44]) | (refine wIn ?_; refine And.intro (by kernel_rfl) ?_; try simp only [thenA_n]) | (first | refine wBlock ?_ | refine wScope ?_) | ((first | refine wRet ?_ | refine wExit ?_ | refine wSkip ?_); try simp) | ((first | refine wLabel ?_ | refine wOn ?_ | refine wQn ?_); try simp only [thenA_n]) | (refine CallE.pure (cc) rfl ?_) | (refine CallE.lent (cc) rfl ?_) | (refine CallF.pure (cc) rfl ?_) | (refine CallF.lent (cc) rfl ?_) | (refine CallE.own (cc) ?_) | (refine CallH.pure (cc) rfl ?_) | (refine CallH.lent (cc) rfl ?_) | (refine CallH.own (cc) ?_)
   all_goals apply hr
   all_goals simp [Try.f7]
end Go.Proofs.Ythiccfadhllajaa
