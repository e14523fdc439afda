/- Texts that the proof needs: HM QB QC QD QE. -/
import Derived.Test.YtffflakmofbilaaGreatP22LeadEpoch
namespace Go.Proofs.YtffflakmofbilaaGreat
set_option linter.unusedSimpArgs false
set_option linter.unusedVariables false
open Go Go.Av
attribute [local irreducible] Go.Av.yG Go.Av.zQ Go.Av.yD Go.Av.zI Go.Av.yA Go.Av.yX Go.Av.Con
theorem set_takeK {α : Type} (l : List α) (k : Nat) (x : α) (h : k < l.length) : (l.set k x).take (k + 1) = l.take k ++ [x] := by
 rw [List.take_succ_eq_append_getElem (by simpa using h), List.getElem_set_self, List.take_set_of_le (Nat.le_refl _)]
set_option maxHeartbeats 1000000 in
theorem ownPart_con (x : Pt) (hm : x.c.ms.length <= 1000) : zF Tryz.prog 86 [.p (.agg x.cells)] (.p (.agg x.cells)) := by
 have c := ownConfig_con x.c.ep x.c.n x.c.kind (mbs x.c.ms) (by rw [uY]; omega)
 unfold Pt.cells
 refine zL Tryz.tab Tryz.mixed Tryz.func86 rfl rfl Tryz.ntmps86 (by simp) (by simp) fun Q hr hn => ?_
 repeat' first | (refine hK _ ?_; clear hK) | (refine zU fun K hK => ?_) | (refine zS ?_; simp only [uU, uT, strip]) | ((first | refine wOs fun K hK => ?_ | refine zY ?_); simp) | (refine zM ?_; try simp) | (refine wOn ?_; try simp only [zZ]) | (refine zQ.pure (c) rfl ?_)
 all_goals apply hr
 all_goals simp [Tryz.f86]
theorem pts_set (l : List Pt) (k : Nat) (x : Pt) : (pts l).set k [I x.k, SB x.z.p, SB x.z.d, I x.z.v, I x.z.k, I x.z.o, I x.s, I x.c.ep, I x.c.n, I x.c.kind, .sl 4 (mbs x.c.ms)] = pts (l.set k x) := by simp [pts, Pt.cells, List.map_set]
def pt0 : Pt := ⟨0, ⟨[], [], 0, 0, 0⟩, 0, ⟨0, 0, 0, []⟩⟩
theorem pts_rep (n : Nat) : List.replicate n [I 0, SB [], SB [], I 0, I 0, I 0, I 0, I 0, I 0, I 0, .sl 4 []] = pts (List.replicate n pt0) := by simp [pts, pt0, Pt.cells, mbs]
set_option maxHeartbeats 1000000 in
theorem listPt_con (l : List Pt) (hl : l.length <= 1000) (hm : ∀ x ∈ l, x.c.ms.length <= 1000) : RCon 85 [.p (.sl 11 (pts l)), .p (.v (.func (.func 86) #[] #[]))] 131 11 (pts l) := by
 by_cases h0 : l.length = 0
 ·obtain rfl := List.length_eq_zero_iff.1 h0
  refine wBodyR Tryz.tab Tryz.mixed Tryz.func85 rfl rfl Tryz.ntmps85 rfl (by simp) (by simp) fun Q hr hn => ?_
  repeat' first | (refine wRetG [.row 4 131 11] ?_) | (refine hK _ ?_; clear hK) | (refine zU fun K hK => ?_) | (refine zS ?_; simp only [uU, uT, strip]) | ((first | refine wOs fun K hK => ?_ | refine zX ?_); simp [pts]) | (refine wOn ?_; try simp only [zZ])
  all_goals refine hr _ 4 (by simp) (by simp [pts]) (by omega)
 have h0' : ¬ (l.length : Int) = 0 := by omega
 refine wBodyR Tryz.tab Tryz.mixed Tryz.func85 rfl rfl Tryz.ntmps85 rfl (by simp) (by simp) fun Q hr hn => ?_
 repeat' first | (rw [if_pos ⟨by omega, by omega⟩]) | (refine hK _ ?_; clear hK) | (refine zU fun K hK => ?_) | (refine zS ?_; simp only [uU, uT, strip]) | ((first | refine wOs fun K hK => ?_ | refine zX ?_); simp [h0, pts_rep]) | (first | refine zV ?_) | (refine zR ?_; try simp) | (refine wOn ?_; try simp only [zZ])
 refine yU (fun N st => ∃ k zs, k + N = l.length /\ zs.length = l.length /\ zs.take k = l.take k /\ st.s 1 = .p (.v (.func (.func 86) #[] #[])) /\ st.s 5 = .row 13 /\ st.s 14 = .p (.sl 11 (pts l)) /\ st.s 15 = .p (I l.length) /\ st.s 16 = .p (I k) /\ st.b 13 = some (.row 131 11 (pts zs))) l.length ⟨0, List.replicate l.length pt0, by simp⟩ fun K N st hL ⟨k, zs, hk, hz, hi, g1, g5, g14, g15, g16, b13⟩ => ?_
 by_cases hlt : k < l.length
 ·have hlt' : (k : Int) < l.length := by omega
  have hltz : k < zs.length := by omega
  have hw := yT k _ hlt (by omega)
  have he := pts_get hlt
  have c := ownPart_con l[k] (hm _ (List.getElem_mem hlt))
  unfold Pt.cells at c
  have hs := pts_set zs k l[k]
  have hst := set_takeK zs k l[k] hltz
  rw [hi, <- List.take_succ_eq_append_getElem hlt] at hst
  repeat' first | (refine hK _ ?_; clear hK) | (refine zU fun K hK => ?_) | (refine zS ?_; simp only [uU, uT, strip]) | ((first | refine wOs fun K hK => ?_ | refine zY ?_ | refine zX ?_); simp [g1, g5, g14, g15, g16, b13, hlt, hlt', hltz, hw, hs, Pt.cells]) | (first | refine zV ?_) | (refine zR ?_; try simp) | (refine wOn ?_; try simp only [zZ]) | (refine zQ.pure (c) rfl ?_)
  refine hL _ (N - 1) (by omega) ⟨k + 1, zs.set k l[k], by omega, by simpa using hz, hst, ?_⟩
  simp [g1, g5, g14, g15]
 ·have hlt' : ¬ (k : Int) < l.length := by omega
  rw [List.take_of_length_le (by omega), List.take_of_length_le (by omega)] at hi
  subst hi
  repeat' first | (refine hK _ ?_; clear hK) | (clear hK; refine hK _ ?_; clear hK) | (refine zU fun K hK => ?_) | (refine zS ?_; simp only [uU, uT, strip]) | ((first | refine wOs fun K hK => ?_ | refine zX ?_); simp [g5, g15, g16, hlt']) | ((first | refine zM ?_ | refine zH ?_); try simp) | (refine wOn ?_; try simp only [zZ])
  all_goals refine hr _ 13 (by simp) (by simp [b13]) (by omega)
theorem ownTxn_con (t : Tx) (hl : t.ps.length <= 1000) (hm : ∀ x ∈ t.ps, x.c.ms.length <= 1000) : zF Tryz.prog 53 [.p (.agg t.cells)] (.p (.agg t.cells)) := by
 have c := listPt_con t.ps hl hm
 unfold Tx.cells
 refine zL Tryz.tab Tryz.mixed Tryz.func53 rfl rfl Tryz.ntmps53 (by simp) (by simp) fun Q hr hn => ?_
 repeat' first | (refine hK _ ?_; clear hK) | (refine zU fun K hK => ?_) | (refine zS ?_; simp only [uU, uT, strip]) | ((first | refine wOs fun K hK => ?_ | refine zY ?_); simp) | (refine zM ?_; try simp) | (refine wOn ?_; try simp only [zZ]) | (refine zQ.own (c) ?_)
 all_goals apply hr
 all_goals simp [Tryz.f53]
theorem txns_set (l : List Tx) (k : Nat) (t : Tx) : (yY l).set k [I t.e, I t.n, I t.s, I t.x, I t.r, I t.b, SB t.m, .sl 11 (pts t.ps)] = yY (l.set k t) := by simp [yY, Tx.cells, List.map_set]
def tx0 : Tx := ⟨0, 0, 0, 0, 0, 0, [], []⟩
theorem txns_rep (n : Nat) : List.replicate n [I 0, I 0, I 0, I 0, I 0, I 0, SB [], .sl 11 []] = yY (List.replicate n tx0) := by simp [yY, tx0, Tx.cells, pts]
set_option maxHeartbeats 1000000 in
theorem listTx_con (l : List Tx) (hl : l.length <= 1000) (hm : ∀ x ∈ l, x.ps.length <= 1000 /\ ∀ p ∈ x.ps, p.c.ms.length <= 1000) : RCon 108 [.p (.sl 8 (yY l)), .p (.v (.func (.func 53) #[] #[]))] 58 8 (yY l) := by
 by_cases h0 : l.length = 0
 ·obtain rfl := List.length_eq_zero_iff.1 h0
  refine wBodyR Tryz.tab Tryz.mixed Tryz.func108 rfl rfl Tryz.ntmps108 rfl (by simp) (by simp) fun Q hr hn => ?_
  repeat' first | (refine wRetG [.row 4 58 8] ?_) | (refine hK _ ?_; clear hK) | (refine zU fun K hK => ?_) | (refine zS ?_; simp only [uU, uT, strip]) | ((first | refine wOs fun K hK => ?_ | refine zX ?_); simp [yY]) | (refine wOn ?_; try simp only [zZ])
  all_goals refine hr _ 4 (by simp) (by simp [yY]) (by omega)
 have h0' : ¬ (l.length : Int) = 0 := by omega
 refine wBodyR Tryz.tab Tryz.mixed Tryz.func108 rfl rfl Tryz.ntmps108 rfl (by simp) (by simp) fun Q hr hn => ?_
 repeat' first | (rw [if_pos ⟨by omega, by omega⟩]) | (refine hK _ ?_; clear hK) | (refine zU fun K hK => ?_) | (refine zS ?_; simp only [uU, uT, strip]) | ((first | refine wOs fun K hK => ?_ | refine zX ?_); simp [h0, txns_rep]) | (first | refine zV ?_) | (refine zR ?_; try simp) | (refine wOn ?_; try simp only [zZ])
 refine yU (fun N st => ∃ k zs, k + N = l.length /\ zs.length = l.length /\ zs.take k = l.take k /\ st.s 1 = .p (.v (.func (.func 53) #[] #[])) /\ st.s 5 = .row 13 /\ st.s 14 = .p (.sl 8 (yY l)) /\ st.s 15 = .p (I l.length) /\ st.s 16 = .p (I k) /\ st.b 13 = some (.row 58 8 (yY zs))) l.length ⟨0, List.replicate l.length tx0, by simp⟩ fun K N st hL ⟨k, zs, hk, hz, hi, g1, g5, g14, g15, g16, b13⟩ => ?_
 by_cases hlt : k < l.length
 ·have hlt' : (k : Int) < l.length := by omega
  have hltz : k < zs.length := by omega
  have hw := yT k _ hlt (by omega)
  have he := wR hlt
  have c := ownTxn_con l[k] (hm _ (List.getElem_mem hlt)).1 (hm _ (List.getElem_mem hlt)).2
  unfold Tx.cells at c
  have hs := txns_set zs k l[k]
  have hst := set_takeK zs k l[k] hltz
  rw [hi, <- List.take_succ_eq_append_getElem hlt] at hst
  repeat' first | (refine hK _ ?_; clear hK) | (refine zU fun K hK => ?_) | (refine zS ?_; simp only [uU, uT, strip]) | ((first | refine wOs fun K hK => ?_ | refine zY ?_ | refine zX ?_); simp [g1, g5, g14, g15, g16, b13, hlt, hlt', hltz, hw, hs]) | (first | refine zV ?_) | (refine zR ?_; try simp) | (refine wOn ?_; try simp only [zZ]) | (refine zQ.pure (c) rfl ?_)
  refine hL _ (N - 1) (by omega) ⟨k + 1, zs.set k l[k], by omega, by simpa using hz, hst, ?_⟩
  simp [g1, g5, g14, g15]
 ·have hlt' : ¬ (k : Int) < l.length := by omega
  rw [List.take_of_length_le (by omega), List.take_of_length_le (by omega)] at hi
  subst hi
  repeat' first | (refine hK _ ?_; clear hK) | (clear hK; refine hK _ ?_; clear hK) | (refine zU fun K hK => ?_) | (refine zS ?_; simp only [uU, uT, strip]) | ((first | refine wOs fun K hK => ?_ | refine zX ?_); simp [g5, g15, g16, hlt']) | ((first | refine zM ?_ | refine zH ?_); try simp) | (refine wOn ?_; try simp only [zZ])
  all_goals refine hr _ 13 (by simp) (by simp [b13]) (by omega)
theorem ownTxns_con (l : List Tx) (hl : l.length <= 1000) (hm : ∀ x ∈ l, x.ps.length <= 1000 /\ ∀ p ∈ x.ps, p.c.ms.length <= 1000) : RCon 79 [.p (.sl 8 (yY l))] 58 8 (yY l) := by
 have c := listTx_con l hl hm
 refine wBodyR Tryz.tab Tryz.mixed Tryz.func79 rfl rfl Tryz.ntmps79 rfl (by simp) (by simp) fun Q hr hn => ?_
 repeat' first | (refine zQ.own (c) ?_) | (refine hK _ ?_; clear hK) | (refine zU fun K hK => ?_) | (refine zS ?_; simp only [uU, uT, strip]) | ((first | refine wOs fun K hK => ?_ | refine zY ?_); simp) | (refine zM ?_; try simp) | (refine wOn ?_; try simp only [zZ])
 all_goals refine hr _ 4 (by simp) (by simp) (by omega)
def carrier (kind : Int) (m : Mb) : Bool := decide (m.r = 1) && (decide (kind = 1) || decide (0 < m.w))
def wU (kind : Int) (l : List Mb) : Bool := l.any (carrier kind)
def fine (p : Int) : List Mb -> Bool
 | [] => true
 | m :: l => decide (okM m /\ p < m.i) && fine m.i l
def ranged (c : Cf) : Prop := (1 <= c.kind /\ c.kind <= 3) /\ (0 <= c.ep /\ c.ep <= 1099511627776) /\ (0 <= c.n /\ c.n <= 1099511627776)
instance (c : Cf) : Decidable (ranged c) := by unfold ranged; infer_instance
def check (c : Cf) : Int := if ranged c then if fine (-1) c.ms = true then if wU c.kind c.ms = true then 0 else 15 else 1 else 1
theorem carried_con (c : Cf) (hl : c.ms.length <= 1000000) : zF Tryz.prog 158 [.p (.agg c.cells)] (.p (B (wU c.kind c.ms))) := by
 obtain ⟨ep, n, kind, l⟩ := c
 simp only [Cf.cells] at hl ⊢
 refine zL Tryz.tab Tryz.mixed Tryz.func158 rfl rfl Tryz.ntmps158 (by simp) (by simp) fun Q hr hn => ?_
 repeat' first | (refine hK _ ?_; clear hK) | (refine zU fun K hK => ?_) | (refine zS ?_; simp only [uU, uT, strip]) | (refine wOs fun K hK => ?_; simp) | (first | refine zV ?_) | (refine wOn ?_; try simp only [zZ])
 refine yU (fun N st => ∃ k, k + N = l.length /\ st.s 1 = .ptr 1 0 /\ st.b 1 = some (.box 28 [.p (I ep), .p (I n), .p (I kind), .p (.sl 4 (mbs l))]) /\ st.s 6 = .p (.sl 4 (mbs l)) /\ st.s 7 = .p (I l.length) /\ st.s 8 = .p (I k) /\ wU kind (l.drop k) = wU kind l) l.length ⟨0, by simp⟩ fun K N st hL ⟨k, hk, h1, b1, h6, h7, h8, hi⟩ => ?_
 by_cases hlt : k < l.length
 ·have hw := yT k _ hlt (by omega)
  rw [List.drop_eq_getElem_cons hlt] at hi
  simp only [wU, List.any_cons] at hi
  by_cases g1 : l[k].r = 1
  ·by_cases g2 : kind = 1
   ·repeat' first | (refine hK _ ?_; clear hK) | (refine zU fun K hK => ?_) | (refine zS ?_; simp only [uU, uT, strip]) | ((first | refine wOs fun K hK => ?_ | refine zX ?_); simp [h1, b1, h6, h7, h8, hlt, g1, g2]) | (first | refine zV ?_) | ((first | refine zM ?_ | refine zR ?_); try simp) | (refine wOn ?_; try simp only [zZ])
    all_goals apply hr
    all_goals simp [Tryz.f158]
    all_goals simp [carrier, g1, g2] at hi
    all_goals simp [wU, carrier, g2]
    all_goals exact hi
   ·by_cases g3 : 0 < l[k].w
    ·repeat' first | (refine hK _ ?_; clear hK) | (refine zU fun K hK => ?_) | (refine zS ?_; simp only [uU, uT, strip]) | ((first | refine wOs fun K hK => ?_ | refine zX ?_); simp [h1, b1, h6, h7, h8, hlt, g1, g2, g3]) | (first | refine zV ?_) | ((first | refine zM ?_ | refine zR ?_); try simp) | (refine wOn ?_; try simp only [zZ])
     all_goals apply hr
     all_goals simp [Tryz.f158]
     all_goals simp [carrier, g1, g2, g3] at hi
     all_goals simp [wU, carrier, g2]
     all_goals exact hi
    ·repeat' first | (refine hK _ ?_; clear hK) | (refine zU fun K hK => ?_) | (refine zS ?_; simp only [uU, uT, strip]) | ((first | refine wOs fun K hK => ?_ | refine zX ?_); simp [h1, b1, h6, h7, h8, hlt, hw, g1, g2, g3]) | (first | refine zV ?_) | (refine zR ?_; try simp) | (refine wOn ?_; try simp only [zZ])
     refine hL _ (N - 1) (by omega) ⟨k + 1, by omega, ?_⟩
     simp [h1, b1, h6, h7]
     simp [wU, <- hi, carrier, g1, g2, g3]
  ·repeat' first | (refine hK _ ?_; clear hK) | (refine zU fun K hK => ?_) | (refine zS ?_; simp only [uU, uT, strip]) | ((first | refine wOs fun K hK => ?_ | refine zX ?_); simp [h1, h6, h7, h8, hlt, hw, g1]) | (first | refine zV ?_) | (refine zR ?_; try simp) | (refine wOn ?_; try simp only [zZ])
   refine hL _ (N - 1) (by omega) ⟨k + 1, by omega, ?_⟩
   simp [h1, b1, h6, h7]
   simp [wU, <- hi, carrier, g1]
 ·rw [List.drop_of_length_le (by omega)] at hi
  repeat' first | (refine hK _ ?_; clear hK) | (clear hK; refine hK _ ?_; clear hK) | (refine zU fun K hK => ?_) | (refine zS ?_; simp only [uU, uT, strip]) | ((first | refine wOs fun K hK => ?_ | refine zX ?_); simp [h7, h8, hlt]) | ((first | refine zM ?_ | refine zH ?_); try simp) | (refine wOn ?_; try simp only [zZ])
  apply hr
  rw [<- hi]
  simp [Tryz.f158]
  rfl
def prevI (l : List Mb) (k : Nat) : Int := if h : 0 < k /\ k <= l.length then (l[k - 1]'(by omega)).i else -1
theorem prevI_succ (l : List Mb) (k : Nat) (h : k < l.length) : prevI l (k + 1) = l[k].i := by
 unfold prevI; rw [dif_pos ⟨by omega, by omega⟩]; rfl
theorem prevI_pos (l : List Mb) (k : Nat) (h0 : 0 < k) (h : k < l.length) : prevI l k = (l[k - 1]'(by omega)).i := by
 unfold prevI; rw [dif_pos ⟨by omega, by omega⟩]
theorem prevI_zero (l : List Mb) : prevI l 0 = -1 := by unfold prevI; rw [dif_neg (by omega)]
set_option maxHeartbeats 8000000 in
theorem check_con (c : Cf) (hl : c.ms.length <= 1000000) : zF Tryz.prog 145 [.p (.agg c.cells)] (.p (I (check c))) := by
 have cc := carried_con c hl
 obtain ⟨ep, n, kind, l⟩ := c
 simp only [Cf.cells, check, ranged] at hl cc ⊢
 have c1 := within_con ep 1099511627776
 have c2 := within_con n 1099511627776
 by_cases g1 : kind < 1
 ·have g1' : ¬ 1 <= kind := by omega
  refine zL Tryz.tab Tryz.mixed Tryz.func145 rfl rfl Tryz.ntmps145 (by simp) (by simp) fun Q hr hn => ?_
  repeat' first | (refine hK _ ?_; clear hK) | (refine zU fun K hK => ?_) | (refine zS ?_; simp only [uU, uT, strip]) | ((first | refine wOs fun K hK => ?_ | refine zX ?_); simp [g1]) | (refine zM ?_; try simp) | (refine wOn ?_; try simp only [zZ])
  all_goals apply hr
  all_goals simp [Tryz.f145, g1']
 by_cases g2 : 3 < kind
 ·have g2' : ¬ kind <= 3 := by omega
  refine zL Tryz.tab Tryz.mixed Tryz.func145 rfl rfl Tryz.ntmps145 (by simp) (by simp) fun Q hr hn => ?_
  repeat' first | (refine hK _ ?_; clear hK) | (refine zU fun K hK => ?_) | (refine zS ?_; simp only [uU, uT, strip]) | ((first | refine wOs fun K hK => ?_ | refine zX ?_); simp [g1, g2]) | (refine zM ?_; try simp) | (refine wOn ?_; try simp only [zZ])
  all_goals apply hr
  all_goals simp [Tryz.f145, g2']
 by_cases g3 : 0 <= ep /\ ep <= 1099511627776
 rotate_left
 ·rw [decide_eq_false g3] at c1
  refine zL Tryz.tab Tryz.mixed Tryz.func145 rfl rfl Tryz.ntmps145 (by simp) (by simp) fun Q hr hn => ?_
  repeat' first | (refine hK _ ?_; clear hK) | (refine zU fun K hK => ?_) | (refine zS ?_; simp only [uU, uT, strip]) | ((first | refine wOs fun K hK => ?_ | refine zY ?_ | refine zX ?_); simp [g1, g2]) | (refine zM ?_; try simp) | (refine wOn ?_; try simp only [zZ]) | (refine zQ.pure (c1) rfl ?_)
  all_goals apply hr
  all_goals simp [Tryz.f145, g3]
 rw [decide_eq_true g3] at c1
 by_cases g4 : 0 <= n /\ n <= 1099511627776
 rotate_left
 ·rw [decide_eq_false g4] at c2
  refine zL Tryz.tab Tryz.mixed Tryz.func145 rfl rfl Tryz.ntmps145 (by simp) (by simp) fun Q hr hn => ?_
  repeat' first | (refine hK _ ?_; clear hK) | (refine zU fun K hK => ?_) | (refine zS ?_; simp only [uU, uT, strip]) | ((first | refine wOs fun K hK => ?_ | refine zY ?_ | refine zX ?_); simp [g1, g2]) | (refine zM ?_; try simp) | (refine wOn ?_; try simp only [zZ]) | (refine zQ.pure (c1) rfl ?_) | (refine zQ.pure (c2) rfl ?_)
  all_goals apply hr
  all_goals simp [Tryz.f145, g4]
 rw [decide_eq_true g4] at c2
 rw [if_pos ⟨⟨by omega, by omega⟩, g3, g4⟩]
 refine zL Tryz.tab Tryz.mixed Tryz.func145 rfl rfl Tryz.ntmps145 (by simp) (by simp) fun Q hr hn => ?_
 repeat' first | (refine hK _ ?_; clear hK) | (refine zU fun K hK => ?_) | (refine zS ?_; simp only [uU, uT, strip]) | ((first | refine wOs fun K hK => ?_ | refine zY ?_ | refine zX ?_); simp [g1, g2]) | (first | refine zV ?_) | (refine zR ?_; try simp) | (refine wOn ?_; try simp only [zZ]) | (refine zQ.pure (c1) rfl ?_) | (refine zQ.pure (c2) rfl ?_)
 refine yU (fun N st => ∃ k, k + N = l.length /\ st.s 1 = .ptr 1 0 /\ st.b 1 = some (.box 28 [.p (I ep), .p (I n), .p (I kind), .p (.sl 4 (mbs l))]) /\ st.s 28 = .p (.sl 4 (mbs l)) /\ st.s 29 = .p (I l.length) /\ st.s 30 = .p (I k) /\ fine (prevI l k) (l.drop k) = fine (-1) l) l.length ⟨0, by simp [prevI_zero]⟩ fun K N st hL ⟨k, hk, h1, b1, h28, h29, h30, hi⟩ => ?_
 by_cases hlt : k < l.length
 ·have hw := yT k _ hlt (by omega)
  rw [List.drop_eq_getElem_cons hlt, fine] at hi
  have cr := right_con l[k]
  simp only [Mb.cells] at cr
  by_cases o1 : okM l[k]
  ·rw [decide_eq_true o1] at cr
   by_cases o2 : 0 < k
   ·have o2' : (0 : Int) < k := by omega
    have hw1 : IntKind.i64.wrap ((k : Int) - 1) = ((k - 1 : Nat) : Int) := by rw [zE] <;> omega
    have hk1 : k - 1 < l.length := by omega
    rw [prevI_pos l k o2 hlt] at hi
    by_cases o3 : l[k].i <= l[k - 1].i
    ·repeat' first | (refine hK _ ?_; clear hK) | (refine zU fun K hK => ?_) | ((first | refine zS ?_ | refine zA rfl (by kernel_rfl) ?_); simp only [uU, uT, strip]) | ((first | refine wOs fun K hK => ?_ | refine wQs fun K hK => ?_ | refine zK ?_ | refine zX ?_); simp [h1, b1, h28, h29, h30, hlt, o2, hw1, hk1, o3]) | (first | refine zV ?_) | ((first | refine zM ?_ | refine zR ?_); try simp) | ((first | refine wOn ?_ | refine wQn ?_); try simp only [zZ]) | (refine zI.pure (cr) rfl ?_)
     all_goals apply hr
     all_goals simp [Tryz.f145]
     all_goals rw [decide_eq_false (by omega)] at hi
     all_goals simp [<- hi]
    ·repeat' first | (refine hK _ ?_; clear hK) | (refine zU fun K hK => ?_) | ((first | refine zS ?_ | refine zA rfl (by kernel_rfl) ?_); simp only [uU, uT, strip]) | ((first | refine wOs fun K hK => ?_ | refine wQs fun K hK => ?_ | refine zK ?_ | refine zX ?_); simp [h1, b1, h28, h29, h30, hlt, hw, o2, hw1, hk1, o3]) | (first | refine zV ?_) | (refine zR ?_; try simp) | ((first | refine wOn ?_ | refine wQn ?_); try simp only [zZ]) | (refine zI.pure (cr) rfl ?_)
     refine hL _ (N - 1) (by omega) ⟨k + 1, by omega, ?_⟩
     simp [h1, b1, h28, h29]
     rw [decide_eq_true ⟨o1, by omega⟩, Bool.true_and] at hi
     rw [prevI_succ l k hlt]; exact hi
   ·obtain rfl : k = 0 := by omega
    simp at h30 hw
    repeat' first | (refine hK _ ?_; clear hK) | (refine zU fun K hK => ?_) | ((first | refine zS ?_ | refine zA rfl (by kernel_rfl) ?_); simp only [uU, uT, strip]) | ((first | refine wOs fun K hK => ?_ | refine wQs fun K hK => ?_ | refine zK ?_ | refine zX ?_); simp [h1, h28, h29, h30, hlt, hw]) | (first | refine zV ?_) | (refine zR ?_; try simp) | ((first | refine wOn ?_ | refine wQn ?_); try simp only [zZ]) | (refine zI.pure (cr) rfl ?_)
    refine hL _ (N - 1) (by omega) ⟨1, by omega, ?_⟩
    simp [h1, b1, h28, h29]
    have := o1.1.1
    rw [prevI_zero, decide_eq_true ⟨o1, by omega⟩, Bool.true_and] at hi
    rw [show (1 : Nat) = 0 + 1 from rfl, prevI_succ l 0 hlt, <- List.drop_one]; exact hi
  ·rw [decide_eq_false o1] at cr
   repeat' first | (refine hK _ ?_; clear hK) | (refine zU fun K hK => ?_) | ((first | refine zS ?_ | refine zA rfl (by kernel_rfl) ?_); simp only [uU, uT, strip]) | ((first | refine wOs fun K hK => ?_ | refine wQs fun K hK => ?_ | refine zK ?_ | refine zX ?_); simp [h1, h28, h29, h30, hlt]) | (first | refine zV ?_) | ((first | refine zM ?_ | refine zR ?_); try simp) | ((first | refine wOn ?_ | refine wQn ?_); try simp only [zZ]) | (refine zI.pure (cr) rfl ?_)
   all_goals apply hr
   all_goals simp [Tryz.f145]
   all_goals simp [<- hi, o1]
 ·rw [List.drop_of_length_le (by omega)] at hi
  have hi' : fine (-1) l = true := hi ▸ rfl
  by_cases g5 : wU kind l = true
  ·rw [g5] at cc
   repeat' first | (refine hK _ ?_; clear hK) | (clear hK; refine hK _ ?_; clear hK) | (refine zU fun K hK => ?_) | (refine zS ?_; simp only [uU, uT, strip]) | ((first | refine wOs fun K hK => ?_ | refine zY ?_ | refine zX ?_); simp [h1, b1, h29, h30, hlt]) | ((first | refine zM ?_ | refine zH ?_ | refine zR ?_); try simp) | (refine wOn ?_; try simp only [zZ]) | (refine zQ.pure (cc) rfl ?_)
   all_goals apply hr
   all_goals simp [Tryz.f145, hi', g5]
  ·rw [Bool.not_eq_true] at g5
   rw [g5] at cc
   repeat' first | (refine hK _ ?_; clear hK) | (clear hK; refine hK _ ?_; clear hK) | (refine zU fun K hK => ?_) | (refine zS ?_; simp only [uU, uT, strip]) | ((first | refine wOs fun K hK => ?_ | refine zY ?_ | refine zX ?_); simp [h1, b1, h29, h30, hlt]) | ((first | refine zM ?_ | refine zH ?_); try simp) | (refine wOn ?_; try simp only [zZ]) | (refine zQ.pure (cc) rfl ?_)
   all_goals apply hr
   all_goals simp [Tryz.f145, hi', g5]
def wsum : List Mb -> Int
 | [] => 0
 | m :: l => (if m.r = 1 then m.w else 0) + wsum l
def cnt : List Mb -> Int
 | [] => 0
 | m :: l => (if m.r = 1 then 1 else 0) + cnt l
theorem sums (kind : Int) (l : List Mb) : ∀ p, fine p l = true -> 0 <= wsum l /\ 0 <= cnt l /\ (cnt l = 0 -> wsum l = 0) /\ (kind = 1 -> wU kind l = decide (0 < cnt l)) /\ (kind ≠ 1 -> wU kind l = decide (0 < wsum l)) := by
 induction l with
 | nil => intro p h; simp [wsum, cnt, wU]
 | cons m l ih =>
  intro p h
  simp only [fine, Bool.and_eq_true, decide_eq_true_eq] at h
  obtain ⟨⟨ho, hp⟩, hf⟩ := h
  obtain ⟨e1, e2, e3, e4, e5⟩ := ih _ hf
  have hw := ho.2.2.1
  simp only [wsum, cnt, wU, List.any_cons, carrier] at *
  by_cases hr : m.r = 1
  ·simp only [hr, if_true, decide_true, Bool.true_and]
   refine ⟨by omega, by omega, by omega, fun hk => ?_, fun hk => ?_⟩
   ·simp [hk]; omega
   ·rw [e5 hk]
    by_cases g : 0 < m.w
    ·simp [hk, g]; omega
    ·simp [hk, show m.w = 0 by omega]
  ·simp only [hr, if_false, decide_false, Bool.false_and, Bool.false_or, Int.zero_add]
   exact ⟨e1, e2, e3, e4, e5⟩
set_option maxHeartbeats 8000000 in
theorem check04_con (c : Cf) (hl : c.ms.length <= 1000000) : zF Tryz.prog 31 [.p (.agg c.cells)] (.p (I (check c))) := by
 obtain ⟨ep, n, kind, l⟩ := c
 simp only [Cf.cells, check, ranged] at hl ⊢
 by_cases g1 : kind < 1
 ·have g1' : ¬ 1 <= kind := by omega
  refine zL Tryz.tab Tryz.mixed Tryz.func31 rfl rfl Tryz.ntmps31 (by simp) (by simp) fun Q hr hn => ?_
  repeat' first | (refine hK _ ?_; clear hK) | (refine zU fun K hK => ?_) | (refine zS ?_; simp only [uU, uT, strip]) | ((first | refine wOs fun K hK => ?_ | refine zX ?_); simp [g1]) | (refine zM ?_; try simp) | (refine wOn ?_; try simp only [zZ])
  all_goals apply hr
  all_goals simp [Tryz.f31, g1']
 by_cases g2 : 3 < kind
 ·have g2' : ¬ kind <= 3 := by omega
  refine zL Tryz.tab Tryz.mixed Tryz.func31 rfl rfl Tryz.ntmps31 (by simp) (by simp) fun Q hr hn => ?_
  repeat' first | (refine hK _ ?_; clear hK) | (refine zU fun K hK => ?_) | (refine zS ?_; simp only [uU, uT, strip]) | ((first | refine wOs fun K hK => ?_ | refine zX ?_); simp [g1, g2]) | (refine zM ?_; try simp) | (refine wOn ?_; try simp only [zZ])
  all_goals apply hr
  all_goals simp [Tryz.f31, g2']
 by_cases g3 : ep < 0
 ·have g3' : ¬ 0 <= ep := by omega
  refine zL Tryz.tab Tryz.mixed Tryz.func31 rfl rfl Tryz.ntmps31 (by simp) (by simp) fun Q hr hn => ?_
  repeat' first | (refine hK _ ?_; clear hK) | (refine zU fun K hK => ?_) | (refine zS ?_; simp only [uU, uT, strip]) | ((first | refine wOs fun K hK => ?_ | refine zX ?_); simp [g1, g2, g3]) | (refine zM ?_; try simp) | (refine wOn ?_; try simp only [zZ])
  all_goals apply hr
  all_goals simp [Tryz.f31, g3']
 by_cases g4 : 1099511627776 < ep
 ·have g4' : ¬ ep <= 1099511627776 := by omega
  refine zL Tryz.tab Tryz.mixed Tryz.func31 rfl rfl Tryz.ntmps31 (by simp) (by simp) fun Q hr hn => ?_
  repeat' first | (refine hK _ ?_; clear hK) | (refine zU fun K hK => ?_) | (refine zS ?_; simp only [uU, uT, strip]) | ((first | refine wOs fun K hK => ?_ | refine zX ?_); simp [g1, g2, g3, g4]) | (refine zM ?_; try simp) | (refine wOn ?_; try simp only [zZ])
  all_goals apply hr
  all_goals simp [Tryz.f31, g4']
 by_cases g5 : n < 0
 ·have g5' : ¬ 0 <= n := by omega
  refine zL Tryz.tab Tryz.mixed Tryz.func31 rfl rfl Tryz.ntmps31 (by simp) (by simp) fun Q hr hn => ?_
  repeat' first | (refine hK _ ?_; clear hK) | (refine zU fun K hK => ?_) | (refine zS ?_; simp only [uU, uT, strip]) | ((first | refine wOs fun K hK => ?_ | refine zX ?_); simp [g1, g2, g3, g4, g5]) | (refine zM ?_; try simp) | (refine wOn ?_; try simp only [zZ])
  all_goals apply hr
  all_goals simp [Tryz.f31, g5']
 by_cases g6 : 1099511627776 < n
 ·have g6' : ¬ n <= 1099511627776 := by omega
  refine zL Tryz.tab Tryz.mixed Tryz.func31 rfl rfl Tryz.ntmps31 (by simp) (by simp) fun Q hr hn => ?_
  repeat' first | (refine hK _ ?_; clear hK) | (refine zU fun K hK => ?_) | (refine zS ?_; simp only [uU, uT, strip]) | ((first | refine wOs fun K hK => ?_ | refine zX ?_); simp [g1, g2, g3, g4, g5, g6]) | (refine zM ?_; try simp) | (refine wOn ?_; try simp only [zZ])
  all_goals apply hr
  all_goals simp [Tryz.f31, g6']
 rw [if_pos ⟨⟨by omega, by omega⟩, ⟨by omega, by omega⟩, ⟨by omega, by omega⟩⟩]
 refine zL Tryz.tab Tryz.mixed Tryz.func31 rfl rfl Tryz.ntmps31 (by simp) (by simp) fun Q hr hn => ?_
 repeat' first | (refine hK _ ?_; clear hK) | (refine zU fun K hK => ?_) | (refine zS ?_; simp only [uU, uT, strip]) | ((first | refine wOs fun K hK => ?_ | refine zX ?_); simp [g1, g2, g3, g4, g5, g6]) | (first | refine zV ?_) | (refine zR ?_; try simp) | (refine wOn ?_; try simp only [zZ])
 refine yU (fun N st => ∃ (k : Nat) (a b : Int), k + N = l.length /\ st.s 1 = .ptr 1 0 /\ st.b 1 = some (.box 28 [.p (I ep), .p (I n), .p (I kind), .p (.sl 4 (mbs l))]) /\ st.s 40 = .p (.sl 4 (mbs l)) /\ st.s 41 = .p (I l.length) /\ st.s 42 = .p (I k) /\ st.s 3 = .p (I a) /\ st.s 4 = .p (I b) /\ fine (prevI l k) (l.drop k) = fine (-1) l ∧
  (0 <= a /\ a <= 100 * k /\ a + wsum (l.drop k) = wsum l) /\ (0 <= b /\ b <= k /\ b + cnt (l.drop k) = cnt l)) l.length ⟨0, 0, 0, by simp [prevI_zero]⟩ fun K N st hL ⟨k, a, b, hk, h1, b1, h40, h41, h42, h3, h4, hi, ⟨ha0, ha1, ha⟩, ⟨hb0, hb1, hb⟩⟩ => ?_
 by_cases hlt : k < l.length
 ·have hw := yT k _ hlt (by omega)
  have hwb : IntKind.i64.wrap (b + 1) = b + 1 := by rw [zE] <;> omega
  rw [List.drop_eq_getElem_cons hlt, fine] at hi
  rw [List.drop_eq_getElem_cons hlt, wsum] at ha
  rw [List.drop_eq_getElem_cons hlt, cnt] at hb
  have cr := ok04_con l[k]
  simp only [Mb.cells] at cr
  by_cases o1 : okM l[k]
  ·rw [decide_eq_true o1] at cr
   have hw0 := o1.2.2.1
   have hwa : IntKind.i64.wrap (a + l[k].w) = a + l[k].w := by rw [zE] <;> omega
   by_cases o2 : 0 < k
   ·have o2' : (0 : Int) < k := by omega
    have hw1 : IntKind.i64.wrap ((k : Int) - 1) = ((k - 1 : Nat) : Int) := by rw [zE] <;> omega
    have hk1 : k - 1 < l.length := by omega
    rw [prevI_pos l k o2 hlt] at hi
    by_cases o3 : l[k].i <= l[k - 1].i
    ·repeat' first | (refine hK _ ?_; clear hK) | (refine zU fun K hK => ?_) | ((first | refine zS ?_ | refine zA rfl (by kernel_rfl) ?_); simp only [uU, uT, strip]) | ((first | refine wOs fun K hK => ?_ | refine wQs fun K hK => ?_ | refine zK ?_ | refine zX ?_); simp [h1, b1, h40, h41, h42, hlt, o2, hw1, hk1, o3]) | (first | refine zV ?_) | ((first | refine zM ?_ | refine zR ?_); try simp) | ((first | refine wOn ?_ | refine wQn ?_); try simp only [zZ]) | (refine zI.pure (cr) rfl ?_)
     all_goals apply hr
     all_goals simp [Tryz.f31]
     all_goals rw [decide_eq_false (by omega)] at hi
     all_goals simp [<- hi]
    ·rw [decide_eq_true ⟨o1, by omega⟩, Bool.true_and] at hi
     by_cases o4 : l[k].r = 1
     ·rw [o4] at cr
      repeat' first | (refine hK _ ?_; clear hK) | (refine zU fun K hK => ?_) | ((first | refine zS ?_ | refine zA rfl (by kernel_rfl) ?_); simp only [uU, uT, strip]) | ((first | refine wOs fun K hK => ?_ | refine wQs fun K hK => ?_ | refine zK ?_ | refine zX ?_); simp [h1, b1, h40, h41, h42, h3, h4, hlt, hw, o2, hw1, hk1, o3, o4, hwa, hwb]) | (first | refine zV ?_) | (refine zR ?_; try simp) | ((first | refine wOn ?_ | refine wQn ?_); try simp only [zZ]) | (refine zI.pure (cr) rfl ?_)
      refine hL _ (N - 1) (by omega) ⟨k + 1, a + l[k].w, b + 1, by omega, ?_⟩
      rw [if_pos o4] at ha hb
      simp [h1, b1, h40, h41]
      rw [prevI_succ l k hlt]
      refine ⟨hi, ⟨by omega, by omega, by omega⟩, by omega, by omega⟩
     ·repeat' first | (refine hK _ ?_; clear hK) | (refine zU fun K hK => ?_) | ((first | refine zS ?_ | refine zA rfl (by kernel_rfl) ?_); simp only [uU, uT, strip]) | ((first | refine wOs fun K hK => ?_ | refine wQs fun K hK => ?_ | refine zK ?_ | refine zX ?_); simp [h1, b1, h40, h41, h42, hlt, hw, o2, hw1, hk1, o3, o4]) | (first | refine zV ?_) | (refine zR ?_; try simp) | ((first | refine wOn ?_ | refine wQn ?_); try simp only [zZ]) | (refine zI.pure (cr) rfl ?_)
      refine hL _ (N - 1) (by omega) ⟨k + 1, a, b, by omega, ?_⟩
      rw [if_neg o4] at ha hb
      simp [h1, b1, h40, h41, h3, h4]
      rw [prevI_succ l k hlt]
      refine ⟨hi, ⟨by omega, by omega, by omega⟩, by omega, by omega, by omega⟩
   ·obtain rfl : k = 0 := by omega
    have := o1.1.1
    rw [prevI_zero, decide_eq_true ⟨o1, by omega⟩, Bool.true_and] at hi
    simp at h42 hw
    by_cases o4 : l[0].r = 1
    ·rw [o4] at cr
     repeat' first | (refine hK _ ?_; clear hK) | (refine zU fun K hK => ?_) | ((first | refine zS ?_ | refine zA rfl (by kernel_rfl) ?_); simp only [uU, uT, strip]) | ((first | refine wOs fun K hK => ?_ | refine wQs fun K hK => ?_ | refine zK ?_ | refine zX ?_); simp [h1, h40, h41, h42, h3, h4, hlt, hw, o4, hwa, hwb]) | (first | refine zV ?_) | (refine zR ?_; try simp) | ((first | refine wOn ?_ | refine wQn ?_); try simp only [zZ]) | (refine zI.pure (cr) rfl ?_)
     refine hL _ (N - 1) (by omega) ⟨0 + 1, a + l[0].w, b + 1, by omega, ?_⟩
     rw [if_pos o4] at ha hb
     rw [prevI_succ l 0 hlt]
     simp [h1, b1, h40, h41]
     rw [<- List.drop_one]
     simp only [Nat.zero_add] at ha hb hi
     refine ⟨hi, ⟨by omega, by omega, by omega⟩, by omega, by omega, by omega⟩
    ·repeat' first | (refine hK _ ?_; clear hK) | (refine zU fun K hK => ?_) | ((first | refine zS ?_ | refine zA rfl (by kernel_rfl) ?_); simp only [uU, uT, strip]) | ((first | refine wOs fun K hK => ?_ | refine wQs fun K hK => ?_ | refine zK ?_ | refine zX ?_); simp [h1, h40, h41, h42, hlt, hw, o4]) | (first | refine zV ?_) | (refine zR ?_; try simp) | ((first | refine wOn ?_ | refine wQn ?_); try simp only [zZ]) | (refine zI.pure (cr) rfl ?_)
     refine hL _ (N - 1) (by omega) ⟨0 + 1, a, b, by omega, ?_⟩
     rw [if_neg o4] at ha hb
     rw [prevI_succ l 0 hlt]
     simp [h1, b1, h40, h41, h3, h4]
     rw [<- List.drop_one]
     simp only [Nat.zero_add] at ha hb hi
     refine ⟨hi, ⟨by omega, by omega, by omega⟩, by omega, by omega, by omega⟩
  ·rw [decide_eq_false o1] at cr
   repeat' first | (refine hK _ ?_; clear hK) | (refine zU fun K hK => ?_) | ((first | refine zS ?_ | refine zA rfl (by kernel_rfl) ?_); simp only [uU, uT, strip]) | ((first | refine wOs fun K hK => ?_ | refine wQs fun K hK => ?_ | refine zK ?_ | refine zX ?_); simp [h1, h40, h41, h42, hlt]) | (first | refine zV ?_) | ((first | refine zM ?_ | refine zR ?_); try simp) | ((first | refine wOn ?_ | refine wQn ?_); try simp only [zZ]) | (refine zI.pure (cr) rfl ?_)
   all_goals apply hr
   all_goals simp [Tryz.f31]
   all_goals simp [<- hi, o1]
 ·rw [List.drop_of_length_le (by omega)] at hi ha hb
  have hi' : fine (-1) l = true := hi ▸ rfl
  obtain ⟨e1, e2, e3, e4, e5⟩ := sums kind l _ hi'
  simp only [wsum, cnt, Int.add_zero] at ha hb
  subst ha hb
  by_cases g5 : cnt l = 0
  ·repeat' first | (refine hK _ ?_; clear hK) | (clear hK; refine hK _ ?_; clear hK) | (refine zU fun K hK => ?_) | (refine zS ?_; simp only [uU, uT, strip]) | ((first | refine wOs fun K hK => ?_ | refine zX ?_); simp [h1, h41, h42, h3, h4, hlt, g5]) | ((first | refine zM ?_ | refine zH ?_); try simp) | (refine wOn ?_; try simp only [zZ])
   all_goals apply hr
   all_goals simp [Tryz.f31, hi']
   all_goals by_cases g6 : kind = 1
   all_goals first | rw [e4 g6, decide_eq_false (by omega)] | rw [e5 g6, decide_eq_false (by omega)]
   all_goals rfl
  ·by_cases g6 : kind = 1
   ·repeat' first | (refine hK _ ?_; clear hK) | (clear hK; refine hK _ ?_; clear hK) | (refine zU fun K hK => ?_) | (refine zS ?_; simp only [uU, uT, strip]) | ((first | refine wOs fun K hK => ?_ | refine zX ?_); simp [h1, b1, h41, h42, h3, h4, hlt, g5, g6]) | ((first | refine zM ?_ | refine zH ?_ | refine zR ?_); try simp) | (refine wOn ?_; try simp only [zZ])
    all_goals apply hr
    all_goals simp [Tryz.f31, hi']
    all_goals rw [e4 g6, decide_eq_true (by omega)]
    all_goals rfl
   ·by_cases g7 : wsum l = 0
    ·repeat' first | (refine hK _ ?_; clear hK) | (clear hK; refine hK _ ?_; clear hK) | (refine zU fun K hK => ?_) | (refine zS ?_; simp only [uU, uT, strip]) | ((first | refine wOs fun K hK => ?_ | refine zX ?_); simp [h1, b1, h41, h42, h3, h4, hlt, g5, g6, g7]) | ((first | refine zM ?_ | refine zH ?_); try simp) | (refine wOn ?_; try simp only [zZ])
     all_goals apply hr
     all_goals simp [Tryz.f31, hi']
     all_goals rw [e5 g6, decide_eq_false (by omega)]
     all_goals rfl
    ·repeat' first | (refine hK _ ?_; clear hK) | (clear hK; refine hK _ ?_; clear hK) | (refine zU fun K hK => ?_) | (refine zS ?_; simp only [uU, uT, strip]) | ((first | refine wOs fun K hK => ?_ | refine zX ?_); simp [h1, b1, h41, h42, h3, h4, hlt, g5, g6, g7]) | ((first | refine zM ?_ | refine zH ?_ | refine zR ?_); try simp) | (refine wOn ?_; try simp only [zZ])
     all_goals apply hr
     all_goals simp [Tryz.f31, hi']
     all_goals rw [e5 g6, decide_eq_true (by omega)]
     all_goals rfl
def ids (l : List Mb) (r : Int) : List Int := (l.filter fun m => decide (m.r = r)).map Mb.i
def tot (f : Mb -> Int) (p : Mb -> Bool) : List Mb -> Int
 | [] => 0
 | m :: l => (if m.r = 1 /\ p m = true then f m else 0) + tot f p l
def inS (set : List Int) (m : Mb) : Bool := decide (m.i ∈ set)
def yes (_ : Mb) : Bool := true
def one (_ : Mb) : Int := 1
def okL (l : List Mb) : Prop := ∀ m ∈ l, okM m
theorem fine_ok : ∀ (l : List Mb) (p : Int), fine p l = true -> okL l
 | [], _, _ => fun m hm => by simp at hm
 | m :: l, p, h => fun x hx => by
  simp only [fine, Bool.and_eq_true, decide_eq_true_eq] at h
  rcases List.mem_cons.1 hx with rfl | hx
  ·exact h.1.1
  ·exact fine_ok l _ h.2 x hx
theorem okL_get {l : List Mb} (h : okL l) (k : Nat) (hk : k < l.length) : okM l[k] := h _ (List.getElem_mem hk)
theorem is1_con (m : Mb) : zF Tryz.prog 147 [.p (.agg m.cells)] (.p (I (one m))) := by
 obtain ⟨i, r, w, g⟩ := m
 simp only [Mb.cells, one]
 refine zL Tryz.tab Tryz.mixed Tryz.func147 rfl rfl Tryz.ntmps147 (by simp) (by simp) fun Q hr hn => ?_
 repeat' first | (refine hK _ ?_; clear hK) | (refine zU fun K hK => ?_) | (refine zS ?_; simp only [uU, uT, strip]) | (refine wOs fun K hK => ?_; simp) | (refine zM ?_; try simp) | (refine wOn ?_; try simp only [zZ])
 all_goals apply hr
 all_goals simp [Tryz.f147]
theorem is2_con (m : Mb) : zF Tryz.prog 148 [.p (.agg m.cells)] (.p (I m.w)) := by
 obtain ⟨i, r, w, g⟩ := m
 simp only [Mb.cells]
 refine zL Tryz.tab Tryz.mixed Tryz.func148 rfl rfl Tryz.ntmps148 (by simp) (by simp) fun Q hr hn => ?_
 repeat' first | (refine hK _ ?_; clear hK) | (refine zU fun K hK => ?_) | (refine zS ?_; simp only [uU, uT, strip]) | (refine wOs fun K hK => ?_; simp) | (refine zM ?_; try simp) | (refine wOn ?_; try simp only [zZ])
 all_goals apply hr
 all_goals simp [Tryz.f148]
set_option maxHeartbeats 2000000 in
theorem most_con (c : Cf) (set : List Int) (h : Nat) (f : Mb -> Int) (hl : c.ms.length <= 1000000) (hf : ∀ m, zF Tryz.prog h [.p (.agg m.cells)] (.p (I (f m)))) (hb : ∀ m ∈ c.ms, 0 <= f m /\ f m <= 100) :
 zF Tryz.prog 146 [.p (.agg c.cells), .p (.sl 1 (ints set)), .p (.v (.func (.func h) #[] #[]))] (.p (B (decide (tot f yes c.ms < 2 * tot f (inS set) c.ms)))) := by
 obtain ⟨ep, n, kind, l⟩ := c
 simp only [Cf.cells] at hl hb ⊢
 refine zL Tryz.tab Tryz.mixed Tryz.func146 rfl rfl Tryz.ntmps146 (by simp) (by simp) fun Q hr hn => ?_
 repeat' first | (refine hK _ ?_; clear hK) | (refine zU fun K hK => ?_) | (refine zS ?_; simp only [uU, uT, strip]) | (refine wOs fun K hK => ?_; simp) | (first | refine zV ?_) | (refine wOn ?_; try simp only [zZ])
 refine yU (fun N st => ∃ (k : Nat) (a b : Int), k + N = l.length /\ st.s 1 = .p (.sl 1 (ints set)) /\ st.s 2 = .p (.v (.func (.func h) #[] #[])) /\ st.s 3 = .ptr 3 0 /\ st.b 3 = some (.box 28 [.p (I ep), .p (I n), .p (I kind), .p (.sl 4 (mbs l))]) /\ st.s 12 = .p (.sl 4 (mbs l)) /\ st.s 13 = .p (I l.length) /\ st.s 14 = .p (I k) /\ st.s 8 = .p (I a) /\ st.s 7 = .p (I b) ∧
  (0 <= a /\ a <= 100 * k /\ a + tot f yes (l.drop k) = tot f yes l) /\ (0 <= b /\ b <= 100 * k /\ b + tot f (inS set) (l.drop k) = tot f (inS set) l)) l.length ⟨0, 0, 0, by simp⟩ fun K N st hL ⟨k, a, b, hk, h1, h2, h3, b3, h12, h13, h14, h8, h7, ⟨ha0, ha1, ha⟩, ⟨hb0, hb1, hbb⟩⟩ => ?_
 by_cases hlt : k < l.length
 ·have hw := yT k _ hlt (by omega)
  rw [List.drop_eq_getElem_cons hlt, tot] at ha hbb
  have hx := hf l[k]
  obtain ⟨w0, w1⟩ := hb _ (List.getElem_mem hlt)
  simp only [Mb.cells] at hx
  by_cases o4 : l[k].r = 1
  ·have hwa : IntKind.i64.wrap (a + f l[k]) = a + f l[k] := by rw [zE] <;> omega
   have hwb : IntKind.i64.wrap (b + f l[k]) = b + f l[k] := by rw [zE] <;> omega
   have hcall := contains_con set l[k].i
   rw [o4] at hx
   simp only [o4, yes, inS, true_and, if_true] at ha hbb
   by_cases o5 : l[k].i ∈ set
   ·rw [decide_eq_true o5] at hcall hbb
    repeat' first | (refine hK _ ?_; clear hK) | (refine zU fun K hK => ?_) | (refine zS ?_; simp only [uU, uT, strip]) | ((first | refine wOs fun K hK => ?_ | refine zY ?_ | refine zX ?_); simp [h1, h2, h12, h13, h14, h8, h7, hlt, hw, o4, hwa, hwb]) | (first | refine zV ?_) | (refine zR ?_; try simp) | (refine wOn ?_; try simp only [zZ]) | (refine zQ.pure (hx) rfl ?_) | (refine zQ.pure (hcall) rfl ?_)
    refine hL _ (N - 1) (by omega) ⟨k + 1, a + f l[k], b + f l[k], by omega, ?_⟩
    simp [h1, h2, h3, b3, h12, h13]
    simp only [if_true] at hbb
    refine ⟨⟨by omega, by omega, ?_⟩, by omega, by omega, ?_⟩
    ·rw [Int.add_assoc]; exact ha
    ·rw [Int.add_assoc]; exact hbb
   ·rw [decide_eq_false o5] at hcall hbb
    repeat' first | (refine hK _ ?_; clear hK) | (refine zU fun K hK => ?_) | (refine zS ?_; simp only [uU, uT, strip]) | ((first | refine wOs fun K hK => ?_ | refine zY ?_ | refine zX ?_); simp [h1, h2, h12, h13, h14, h8, hlt, hw, o4, hwa]) | (first | refine zV ?_) | (refine zR ?_; try simp) | (refine wOn ?_; try simp only [zZ]) | (refine zQ.pure (hx) rfl ?_) | (refine zQ.pure (hcall) rfl ?_)
    refine hL _ (N - 1) (by omega) ⟨k + 1, a + f l[k], b, by omega, ?_⟩
    simp [h1, h2, h3, b3, h7, h12, h13]
    simp at hbb
    refine ⟨⟨by omega, by omega, ?_⟩, by omega, by omega, ?_⟩
    ·rw [Int.add_assoc]; exact ha
    ·exact hbb
  ·simp only [o4, false_and, if_false, Int.zero_add] at ha hbb
   repeat' first | (refine hK _ ?_; clear hK) | (clear hK; refine hK _ ?_; clear hK) | (refine zU fun K hK => ?_) | (refine zS ?_; simp only [uU, uT, strip]) | ((first | refine wOs fun K hK => ?_ | refine zX ?_); simp [h12, h13, h14, hlt, hw, o4]) | (first | refine zV ?_) | ((first | refine zH ?_ | refine zR ?_); try simp) | (refine wOn ?_; try simp only [zZ])
   refine hL _ (N - 1) (by omega) ⟨k + 1, a, b, by omega, ?_⟩
   simp [h1, h2, h3, b3, h12, h13, h7, h8]
   refine ⟨⟨by omega, by omega, ?_⟩, by omega, by omega, ?_⟩
   ·exact ha
   ·exact hbb
 ·rw [List.drop_of_length_le (by omega)] at ha hbb
  simp only [tot, Int.add_zero] at ha hbb
  subst ha hbb
  have hw2 : IntKind.i64.wrap (2 * tot f (inS set) l) = 2 * tot f (inS set) l := by rw [zE] <;> omega
  repeat' first | (refine hK _ ?_; clear hK) | (clear hK; refine hK _ ?_; clear hK) | (refine zU fun K hK => ?_) | (refine zS ?_; simp only [uU, uT, strip]) | ((first | refine wOs fun K hK => ?_ | refine zX ?_); simp [h13, h14, h8, h7, hlt, hw2]) | ((first | refine zM ?_ | refine zH ?_); try simp) | (refine wOn ?_; try simp only [zZ])
  apply hr
  simp [Tryz.f146]
def bx (z : List Int) : List V := z.map fun n => .p (I n)
@[simp] theorem bx_len (z : List Int) : (bx z).length = z.length := by simp [bx]
@[simp] theorem bx_get (z : List Int) (k : Nat) (h : k < (bx z).length) : (bx z)[k] = .p (I (z[k]'(by simpa using h))) := by simp [bx]
@[simp] theorem bx_scr (z : List Int) (n : Nat) : (bx z).map (yR n) = bx z := by
 unfold bx; rw [List.map_map]; rfl
def ixs (z : List Int) : List PV := z.map fun n => I n
@[simp] theorem ixs_len (z : List Int) : (ixs z).length = z.length := by simp [ixs]
@[simp] theorem ixs_get (z : List Int) (k : Nat) (h : k < (ixs z).length) : (ixs z)[k] = I (z[k]'(by simpa using h)) := by simp [ixs]
@[simp] theorem toPs_bx : ∀ z : List Int, vE (bx z) = some (ixs z)
 | [] => rfl
 | a :: z => by
  show (match toP (.p (I a)), vE (bx z) with | some p, some r => some (p :: r) | _, _ => none) = _
  rw [toPs_bx z]; rfl
theorem bx_take (z : List Int) (n : Nat) (h : z.length <= n) : (bx z).take n = bx z := List.take_of_length_le (by simpa using h)
theorem bx_put (z : List Int) (k : Nat) (x : Int) (h : k < z.length) : (bx z).take k ++ .p (I x) :: (bx z).drop (k + 1) = bx (z.set k x) := by
 unfold bx
 rw [<- List.map_take, <- List.map_drop, <- uU (f := fun n => V.p (I n)), <- List.map_append, List.set_eq_take_append_cons_drop, if_pos h]
def inG (p : Mb -> Bool) (g : Nat) (m : Mb) : Bool := decide (m.g = g) && p m
def gs (p : Mb -> Bool) (l : List Mb) : List Int := (List.range 8).map fun g => tot Mb.w (inG p g) l
@[simp] theorem gs_len (p : Mb -> Bool) (l : List Mb) : (gs p l).length = 8 := by simp [gs]
@[simp] theorem gs_get (p : Mb -> Bool) (l : List Mb) (g : Nat) (h : g < (gs p l).length) : (gs p l)[g] = tot Mb.w (inG p g) l := by simp [gs]
theorem tot_append (f : Mb -> Int) (p : Mb -> Bool) : ∀ a b : List Mb, tot f p (a ++ b) = tot f p a + tot f p b
 | [], b => by simp [tot]
 | m :: a, b => by simp only [List.cons_append, tot, tot_append f p a b, Int.add_assoc]
theorem tot_snoc (f : Mb -> Int) (p : Mb -> Bool) (l : List Mb) (k : Nat) (h : k < l.length) : tot f p (l.take (k + 1)) = tot f p (l.take k) + (if l[k].r = 1 /\ p l[k] = true then f l[k] else 0) := by
 rw [take_snoc _ k h, tot_append]; simp [tot]
theorem yC (f : Mb -> Int) (p : Mb -> Bool) : ∀ l : List Mb, (∀ m ∈ l, 0 <= f m /\ f m <= 100) -> 0 <= tot f p l /\ tot f p l <= 100 * l.length
 | [], _ => by simp [tot]
 | m :: l, h => by
  have h1 := yC f p l fun x hx => h x (List.mem_cons_of_mem _ hx)
  have h2 := h m (by simp)
  simp only [tot, List.length_cons]
  split <;> omega
theorem okL_w {l : List Mb} (h : okL l) : ∀ m ∈ l, 0 <= m.w /\ m.w <= 100 := fun m hm => (h m hm).2.2.1
theorem okL_take {l : List Mb} (h : okL l) (k : Nat) : okL (l.take k) := fun m hm => h m (List.mem_of_mem_take hm)
theorem gs_snoc (p : Mb -> Bool) (l : List Mb) (k : Nat) (h : k < l.length) (ho : okM l[k]) (hr : l[k].r = 1) (hp : p l[k] = true) :
 (gs p (l.take k)).set l[k].g.toNat (tot Mb.w (inG p l[k].g.toNat) (l.take k) + l[k].w) = gs p (l.take (k + 1)) := by
 have hg := ho.2.2.2
 apply List.ext_getElem (by simp)
 intro g h1 h2
 rw [List.getElem_set]
 simp only [gs_get, tot_snoc _ _ l k h, hr, inG, hp, Bool.and_true, decide_eq_true_eq, true_and]
 by_cases e : l[k].g.toNat = g
 ·rw [if_pos e, if_pos (by omega)]; subst e; rfl
 ·rw [if_neg e, if_neg (by omega), Int.add_zero]
theorem gs_skip (p : Mb -> Bool) (l : List Mb) (k : Nat) (h : k < l.length) (hp : ¬ (l[k].r = 1 /\ p l[k] = true)) : gs p (l.take (k + 1)) = gs p (l.take k) := by
 apply List.ext_getElem (by simp)
 intro g h1 h2
 simp only [gs_get, tot_snoc _ _ l k h, inG, Bool.and_eq_true, decide_eq_true_eq]
 rw [if_neg (fun x => hp ⟨x.1, x.2.2⟩), Int.add_zero]
def num (q : Nat -> Bool) : Nat -> Int
 | 0 => 0
 | k + 1 => num q k + (if q k = true then 1 else 0)
theorem num_bound (q : Nat -> Bool) : ∀ k, 0 <= num q k /\ num q k <= k
 | 0 => by simp [num]
 | k + 1 => by have := num_bound q k; simp only [num]; split <;> omega
def hasG (l : List Mb) (g : Nat) : Bool := decide (0 < tot Mb.w (inG yes g) l)
def wonG (set : List Int) (l : List Mb) (g : Nat) : Bool := decide (tot Mb.w (inG yes g) l < 2 * tot Mb.w (inG (inS set) g) l)
set_option maxHeartbeats 4000000 in
theorem groups_con (c : Cf) (set : List Int) (hl : c.ms.length <= 1000000) (ho : okL c.ms) :
 zF Tryz.prog 149 [.p (.agg c.cells), .p (.sl 1 (ints set))] (.p (B (decide (num (hasG c.ms) 8 < 2 * num (wonG set c.ms) 8)))) := by
 obtain ⟨ep, n, kind, l⟩ := c
 simp only [Cf.cells] at hl ho ⊢
 refine zL Tryz.tab Tryz.mixed Tryz.func149 rfl rfl Tryz.ntmps149 (by simp) (by simp) fun Q hr hn => ?_
 repeat' first | (refine hK _ ?_; clear hK) | (refine zU fun K hK => ?_) | (refine zS ?_; simp only [uU, uT, strip]) | (refine wOs fun K hK => ?_; simp) | (first | refine zV ?_) | (refine wOn ?_; try simp only [zZ])
 refine yU (fun N st => ∃ (k : Nat), k + N = l.length /\ st.s 1 = .p (.sl 1 (ints set)) /\ st.s 2 = .ptr 2 0 /\ st.s 5 = .ptr 5 0 /\ st.s 6 = .ptr 6 0 /\ st.b 2 = some (.box 28 [.p (I ep), .p (I n), .p (I kind), .p (.sl 4 (mbs l))]) /\ st.s 14 = .p (.sl 4 (mbs l)) /\ st.s 15 = .p (I l.length) /\ st.s 16 = .p (I k) ∧
  st.b 5 = some (.box 144 (bx (gs (inS set) (l.take k)))) /\ st.b 6 = some (.box 144 (bx (gs yes (l.take k))))) l.length ⟨0, by simp [bx, gs, List.range, List.range.loop, tot]⟩ fun K N st hL ⟨k, hk, h1, h2, h5, h6, b2, h14, h15, h16, b5, b6⟩ => ?_
 by_cases hlt : k < l.length
 ·have hw := yT k _ hlt (by omega)
  have okk := okL_get ho k hlt
  obtain ⟨w0, w1⟩ := okk.2.2.1
  obtain ⟨g0, g1⟩ := okk.2.2.2
  have g2 : l[k].g.toNat < 8 := by omega
  have g1' : l[k].g < 8 := by omega
  by_cases o4 : l[k].r = 1
  ·have hcall := contains_con set l[k].i
   have t1 := yC Mb.w (inG yes l[k].g.toNat) (l.take k) (okL_w (okL_take ho k))
   have t2 := yC Mb.w (inG (inS set) l[k].g.toNat) (l.take k) (okL_w (okL_take ho k))
   have hlk : (l.take k).length <= 1000000 := by simp; omega
   have hwa : IntKind.i64.wrap (tot Mb.w (inG yes l[k].g.toNat) (l.take k) + l[k].w) = tot Mb.w (inG yes l[k].g.toNat) (l.take k) + l[k].w := by rw [zE] <;> omega
   have hwb : IntKind.i64.wrap (tot Mb.w (inG (inS set) l[k].g.toNat) (l.take k) + l[k].w) = tot Mb.w (inG (inS set) l[k].g.toNat) (l.take k) + l[k].w := by rw [zE] <;> omega
   by_cases o5 : l[k].i ∈ set
   ·rw [decide_eq_true o5] at hcall
    repeat' first | (refine wDrwT 8 (by kernel_rfl) ?_; simp only [uU, uT, strip, List.take, List.drop]) | (refine hK _ ?_; clear hK) | (refine zU fun K hK => ?_) | (refine zS ?_; simp only [uU, uT, strip]) | ((first | refine wOs fun K hK => ?_ | refine wQs fun K hK => ?_ | refine zY ?_ | refine zX ?_); simp [h1, h5, h6, h14, h15, h16, b5, b6, hlt, hw, o4, g0, g1, g2, hwa, hwb, PV.one]) | (first | refine zV ?_) | (refine zR ?_; try simp) | ((first | refine wOn ?_ | refine wQn ?_); try simp only [zZ]) | (refine zQ.pure (hcall) rfl ?_)
    refine hL _ (N - 1) (by omega) ⟨k + 1, by omega, ?_⟩
    simp [h1, h2, h5, h6, b2, h14, h15]
    rw [bx_put _ _ _ (by simpa using g2), bx_put _ _ _ (by simpa using g2), gs_snoc yes l k hlt okk o4 rfl, gs_snoc (inS set) l k hlt okk o4 (by simp [inS, o5])]
    exact ⟨rfl, rfl⟩
   ·rw [decide_eq_false o5] at hcall
    repeat' first | (refine wDrwT 8 (by kernel_rfl) ?_; simp only [uU, uT, strip, List.take, List.drop]) | (refine hK _ ?_; clear hK) | (refine zU fun K hK => ?_) | (refine zS ?_; simp only [uU, uT, strip]) | ((first | refine wOs fun K hK => ?_ | refine wQs fun K hK => ?_ | refine zY ?_ | refine zX ?_); simp [h1, h6, h14, h15, h16, b6, hlt, hw, o4, g0, g1, g2, hwa, PV.one]) | (first | refine zV ?_) | (refine zR ?_; try simp) | ((first | refine wOn ?_ | refine wQn ?_); try simp only [zZ]) | (refine zQ.pure (hcall) rfl ?_)
    refine hL _ (N - 1) (by omega) ⟨k + 1, by omega, ?_⟩
    simp [h1, h2, h5, h6, b2, b5, h14, h15]
    rw [bx_put _ _ _ (by simpa using g2), gs_snoc yes l k hlt okk o4 rfl, gs_skip (inS set) l k hlt (by simp [inS, o5])]
    exact ⟨rfl, rfl⟩
  ·repeat' first | (refine hK _ ?_; clear hK) | (clear hK; refine hK _ ?_; clear hK) | (refine zU fun K hK => ?_) | (refine zS ?_; simp only [uU, uT, strip]) | ((first | refine wOs fun K hK => ?_ | refine zX ?_); simp [h14, h15, h16, hlt, hw, o4]) | (first | refine zV ?_) | ((first | refine zH ?_ | refine zR ?_); try simp) | (refine wOn ?_; try simp only [zZ])
   refine hL _ (N - 1) (by omega) ⟨k + 1, by omega, ?_⟩
   simp [h1, h2, h5, h6, b2, b5, b6, h14, h15]
   rw [gs_skip (inS set) l k hlt (fun x => o4 x.1), gs_skip yes l k hlt (fun x => o4 x.1)]
   exact ⟨rfl, rfl⟩
 ·rw [List.take_of_length_le (by omega)] at b5 b6
  have hlong : 8 <= (bx (gs yes l)).length := by simp
  have htk : (bx (gs yes l)).take 8 = bx (gs yes l) := bx_take _ _ (by simp)
  repeat' first | (refine hK _ ?_; clear hK) | (clear hK; refine hK _ ?_; clear hK) | (refine zU fun K hK => ?_) | (refine zS ?_; simp only [uU, uT, strip]) | ((first | refine wOs fun K hK => ?_ | refine zX ?_); simp [h6, h15, h16, b6, hlt, htk]) | (first | refine zV ?_) | (refine zH ?_; try simp) | (refine wOn ?_; try simp only [zZ])
  refine yU (fun N st => ∃ (k : Nat), k + N = 8 /\ st.s 5 = .ptr 5 0 /\ st.b 5 = some (.box 144 (bx (gs (inS set) l))) /\ st.s 44 = .p (.agg (ixs (gs yes l))) /\ st.s 45 = .p (I k) /\ st.s 9 = .p (I (num (wonG set l) k)) /\ st.s 10 = .p (I (num (hasG l) k))) 8 ⟨0, by simp [h5, b5, num]⟩ fun K' N' st' hL' ⟨j, hj, g5, c5, g44, g45, g9, g10⟩ => ?_
  have nb1 := num_bound (wonG set l) j
  have nb2 := num_bound (hasG l) j
  by_cases hjl : j < 8
  ·have hw := yT j 8 hjl (by omega)
   have hjI : (j : Int) < 8 := by omega
   have hwa : IntKind.i64.wrap (num (wonG set l) j + 1) = num (wonG set l) j + 1 := by rw [zE] <;> omega
   have hwb : IntKind.i64.wrap (num (hasG l) j + 1) = num (hasG l) j + 1 := by rw [zE] <;> omega
   have t1 := yC Mb.w (inG yes j) l (okL_w ho)
   have t2 := yC Mb.w (inG (inS set) j) l (okL_w ho)
   have hwc : IntKind.i64.wrap (2 * tot Mb.w (inG (inS set) j) l) = 2 * tot Mb.w (inG (inS set) j) l := by rw [zE] <;> omega
   by_cases q1 : 0 < tot Mb.w (inG yes j) l
   ·by_cases q2 : tot Mb.w (inG yes j) l < 2 * tot Mb.w (inG (inS set) j) l
    ·repeat' first | (refine hK _ ?_; clear hK) | (refine zU fun K hK => ?_) | (refine zS ?_; simp only [uU, uT, strip]) | ((first | refine wOs fun K hK => ?_ | refine zX ?_); simp [g5, c5, g44, g45, g9, g10, hjl, hjI, hw, hwa, hwb, hwc, q1, q2]) | (first | refine zV ?_) | (refine zR ?_; try simp) | (refine wOn ?_; try simp only [zZ])
     refine hL' _ (N' - 1) (by omega) ⟨j + 1, by omega, ?_⟩
     simp [g5, c5, g44]
     simp [num, hasG, wonG, q1, q2]
    ·repeat' first | (refine hK _ ?_; clear hK) | (refine zU fun K hK => ?_) | (refine zS ?_; simp only [uU, uT, strip]) | ((first | refine wOs fun K hK => ?_ | refine zX ?_); simp [g5, c5, g44, g45, g10, hjl, hjI, hw, hwb, hwc, q1, q2]) | (first | refine zV ?_) | (refine zR ?_; try simp) | (refine wOn ?_; try simp only [zZ])
     refine hL' _ (N' - 1) (by omega) ⟨j + 1, by omega, ?_⟩
     simp [g5, c5, g44, g9]
     simp [num, hasG, wonG, q1, q2]
   ·by_cases q2 : tot Mb.w (inG yes j) l < 2 * tot Mb.w (inG (inS set) j) l
    ·repeat' first | (refine hK _ ?_; clear hK) | (refine zU fun K hK => ?_) | (refine zS ?_; simp only [uU, uT, strip]) | ((first | refine wOs fun K hK => ?_ | refine zX ?_); simp [g5, c5, g44, g45, g9, hjl, hjI, hw, hwa, hwc, q1, q2]) | (first | refine zV ?_) | (refine zR ?_; try simp) | (refine wOn ?_; try simp only [zZ])
     refine hL' _ (N' - 1) (by omega) ⟨j + 1, by omega, ?_⟩
     simp [g5, c5, g44, g10]
     simp [num, hasG, wonG, q1, q2]
    ·repeat' first | (refine hK _ ?_; clear hK) | (refine zU fun K hK => ?_) | (refine zS ?_; simp only [uU, uT, strip]) | ((first | refine wOs fun K hK => ?_ | refine zX ?_); simp [g5, c5, g44, g45, hjl, hjI, hw, hwc, q1, q2]) | (first | refine zV ?_) | (refine zR ?_; try simp) | (refine wOn ?_; try simp only [zZ])
     refine hL' _ (N' - 1) (by omega) ⟨j + 1, by omega, ?_⟩
     simp [g5, c5, g44, g9, g10]
     simp [num, hasG, wonG, q1, q2]
  ·obtain rfl : j = 8 := by omega
   simp at g45
   have hwc : IntKind.i64.wrap (2 * num (wonG set l) 8) = 2 * num (wonG set l) 8 := by rw [zE] <;> omega
   repeat' first | (refine hK _ ?_; clear hK) | (clear hK; refine hK _ ?_; clear hK) | (refine zU fun K hK => ?_) | (refine zS ?_; simp only [uU, uT, strip]) | ((first | refine wOs fun K hK => ?_ | refine zX ?_); simp [g45, g9, g10, hwc]) | ((first | refine zM ?_ | refine zH ?_); try simp) | (refine wOn ?_; try simp only [zZ])
   apply hr
   simp [Tryz.f149]
end Go.Proofs.YtffflakmofbilaaGreat
