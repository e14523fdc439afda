/- Texts that the proof needs: XL XM NG NH XN XO XP HI KCM LD6 HV. -/
import Derived.Test.YtffflakmofbilaaGreatP29LeadEpoch
import Derived.Test.YtffflakmofbilaaGreatP16LeadEpoch
import Derived.Test.YtffflakmofbilaaGreatP22LeadEpoch
import Derived.Test.YtffflakmofbilaaGreatP24LeadEpoch
import Derived.Test.YtffflakmofbilaaGreatP23LeadEpoch
import Derived.Test.YtffflakmofbilaaGreatP26LeadEpoch
namespace Go.Proofs.YtffflakmofbilaaGreat
set_option linter.unusedSimpArgs false
set_option linter.unusedVariables false
open Go Go.Av
attribute [local irreducible] Go.Av.yG Go.Av.zQ Go.Av.yD Go.Av.zI Go.Av.yA Go.Av.yX Go.Av.Con
theorem zis_snoc (l : List Int) (a : Int) : zis l ++ [[I a]] = zis (l ++ [a]) := by simp [zis]
theorem but_take_len (l : List Int) (n : Int) (k : Nat) : (but (l.take k) n).length <= k := Nat.le_trans (but_len _ _) (by simp; omega)
theorem without08_con (l : List Int) (n : Int) (hl : l.length <= 1000000) : zF Tryz.prog 135 [.p (.sl 1 (zis l)), .p (I n)] (.p (.sl 1 (zis (but l n)))) := by
 refine zL Tryz.tab Tryz.mixed Tryz.func135 rfl rfl Tryz.ntmps135 (by simp) (by simp) fun Q hr hn => ?_
 repeat' first | (refine hK _ ?_; clear hK) | (refine zU fun K hK => ?_) | (refine zS ?_; simp only [uU, uT, strip]) | (refine wOs fun K hK => ?_; simp) | (first | refine zV ?_) | (refine wOn ?_; try simp only [zZ])
 refine wLoopG [.row 5 3 1] (fun N st => ∃ k, k + N = l.length /\ st.s 1 = .p (I n) /\ st.s 8 = .p (.sl 1 (zis l)) /\ st.s 9 = .p (I l.length) /\ st.s 10 = .p (I k) /\ st.s 5 = .row 5 /\ st.b 5 = some (.row 3 1 (zis (but (l.take k) n)))) l.length ⟨0, by simp [but, zis]⟩ fun K N st hL ⟨k, hk, g1, g8, g9, g10, g5, b5⟩ => ?_
 have hkl := but_take_len l n k
 by_cases hlt : k < l.length
 ·have hw := wrapX k _ hlt (by omega)
  have he := zis_get hlt
  have hs := but_snoc hlt n
  have hx := zis_snoc (but (l.take k) n) l[k]
  by_cases o : l[k] = n
  ·rw [if_pos o] at hs
   repeat' first | (refine hK _ ?_; clear hK) | (refine zU fun K hK => ?_) | (refine zS ?_; simp only [uU, uT, strip]) | ((first | refine wOs fun K hK => ?_ | refine zX ?_); simp [g1, g8, g9, g10, hlt, hw, o]) | (first | refine zV ?_) | (refine zR ?_; try simp) | (refine wOn ?_; try simp only [zZ])
   refine hL _ (N - 1) (by omega) ⟨k + 1, by omega, ?_⟩
   simp [g1, g8, g9, g5, b5, hs]
  ·rw [if_neg o] at hs
   rw [<- hs] at hx
   repeat' first | (refine And.intro (by (try simp at hkl ⊢); omega) ?_) | (refine hK _ ?_; clear hK) | (refine zU fun K hK => ?_) | (refine zS ?_; simp only [uU, uT, strip]) | ((first | refine wOs fun K hK => ?_ | refine zX ?_); simp [g1, g8, g9, g10, g5, b5, hlt, hw, o]) | (first | refine zV ?_) | (refine zR ?_; try simp) | (refine wOn ?_; try simp only [zZ])
   refine hL _ (N - 1) (by omega) ⟨k + 1, by omega, ?_⟩
   simp [g1, g8, g9, hx]
 ·rw [List.take_of_length_le (by omega)] at b5
  repeat' first | (refine hK _ ?_; clear hK) | (clear hK; refine hK _ ?_; clear hK) | (refine zU fun K hK => ?_) | (refine zS ?_; simp only [uU, uT, strip]) | ((first | refine wOs fun K hK => ?_ | refine zX ?_); simp [g9, g10, g5, hlt]) | ((first | refine zM ?_ | refine zH ?_); try simp) | (refine wOn ?_; try simp only [zZ])
  all_goals apply hr
  all_goals simp [Tryz.f135, b5]
theorem copied08_con (e n k : Int) (ms : List (List PV)) (hl : ms.length <= 4398046510976) : zF Tryz.prog 63 [.p (.agg [I e, I n, I k, .sl 4 ms])] (.p (.agg [I e, I n, I k, .sl 4 ms])) := by
 refine zL Tryz.tab Tryz.mixed Tryz.func63 rfl rfl Tryz.ntmps63 (by simp) (by simp) fun Q hr hn => ?_
 repeat' first | (refine And.intro (by (try simp); omega) ?_) | (refine Or.inl ?_) | (refine hK _ ?_; clear hK) | (refine zU fun K hK => ?_) | (refine zS ?_; simp only [uU, uT, strip]) | (refine wOs fun K hK => ?_; simp) | (refine zM ?_; try simp) | (refine wOn ?_; try simp only [zZ])
 all_goals apply hr
 all_goals simp [Tryz.f63]
def wst1 (n : Int) (q : List Int × Bool) (x : Int) : List Int × Bool :=
 if n <= x /\ q.2 = false then (if x = n then q.1 ++ [n] else q.1 ++ [n] ++ [x], true) else (if x = n then q.1 else q.1 ++ [x], q.2)
def wst (l : List Int) (n : Int) : List Int × Bool := l.foldl (wst1 n) ([], false)
theorem wst_snoc {l : List Int} {k : Nat} (h : k < l.length) (n : Int) : wst (l.take (k + 1)) n = wst1 n (wst (l.take k) n) l[k] := by
 rw [List.take_succ_eq_append_getElem h, wst, List.foldl_append]; rfl
theorem wst_len (n : Int) : ∀ (l : List Int) (q : List Int × Bool), (l.foldl (wst1 n) q).1.length <= q.1.length + 2 * l.length
 | [], q => by simp
 | x :: l, q => by
  have := wst_len n l (wst1 n q x)
  have h1 : (wst1 n q x).1.length <= q.1.length + 2 := by unfold wst1; split <;> split <;> simp
  simp only [List.foldl_cons, List.length_cons]
  omega
def wth (l : List Int) (n : Int) : List Int := if (wst l n).2 = true then (wst l n).1 else (wst l n).1 ++ [n]
theorem wst_take_len (l : List Int) (n : Int) (k : Nat) : (wst (l.take k) n).1.length <= 2 * k := by
 have := wst_len n (l.take k) ([], false)
 have h2 : (l.take k).length <= k := by simp; omega
 unfold wst
 simp at this ⊢; omega
theorem with08_con (l : List Int) (n : Int) (hl : l.length <= 1000000) : zF Tryz.prog 134 [.p (.sl 1 (zis l)), .p (I n)] (.p (.sl 1 (zis (wth l n)))) := by
 refine zL Tryz.tab Tryz.mixed Tryz.func134 rfl rfl Tryz.ntmps134 (by simp) (by simp) fun Q hr hn => ?_
 repeat' first | (refine hK _ ?_; clear hK) | (refine zU fun K hK => ?_) | (refine zS ?_; simp only [uU, uT, strip]) | (refine wOs fun K hK => ?_; simp) | (first | refine zV ?_) | (refine wOn ?_; try simp only [zZ])
 refine wLoopG [.row 5 3 1] (fun N st => ∃ k, k + N = l.length /\ st.s 1 = .p (I n) /\ st.s 9 = .p (.sl 1 (zis l)) /\ st.s 10 = .p (I l.length) /\ st.s 11 = .p (I k) /\ st.s 5 = .row 5 /\ st.s 6 = .p (B (wst (l.take k) n).2) /\ st.b 5 = some (.row 3 1 (zis (wst (l.take k) n).1))) l.length ⟨0, by simp [wst, zis]⟩ fun K N st hL ⟨k, hk, g1, g9, g10, g11, g5, g6, b5⟩ => ?_
 have hkl := wst_take_len l n k
 by_cases hlt : k < l.length
 ·have hw := wrapX k _ hlt (by omega)
  have he := zis_get hlt
  have hs := wst_snoc hlt n
  generalize wst (l.take k) n = q at hs g6 b5 hkl
  obtain ⟨o, d⟩ := q
  dsimp only at g6 b5 hkl
  generalize hx : l[k] = x at hs he
  by_cases h1 : n <= x
  ·cases d
   ·by_cases h2 : x = n
    ·have hs' : wst (l.take (k + 1)) n = (o ++ [n], true) := by rw [hs]; simp [wst1, h2]
     repeat' first | (refine And.intro (by (try simp at hkl ⊢); omega) ?_) | (refine hK _ ?_; clear hK) | (refine zU fun K hK => ?_) | (refine zS ?_; simp only [uU, uT, strip]) | ((first | refine wOs fun K hK => ?_ | refine zX ?_); simp [g1, g9, g10, g11, g5, g6, b5, hlt, hw, hx, h2, zis_snoc]) | (first | refine zV ?_) | (refine zR ?_; try simp) | (refine wOn ?_; try simp only [zZ])
     refine hL _ (N - 1) (by omega) ⟨k + 1, by omega, ?_⟩
     simp [g1, g9, g10, hs']
    ·have hs' : wst (l.take (k + 1)) n = (o ++ [n] ++ [x], true) := by rw [hs]; simp [wst1, h1, h2]
     repeat' first | (refine And.intro (by (try simp at hkl ⊢); omega) ?_) | (refine hK _ ?_; clear hK) | (refine zU fun K hK => ?_) | (refine zS ?_; simp only [uU, uT, strip]) | ((first | refine wOs fun K hK => ?_ | refine zX ?_); simp [g1, g9, g10, g11, g5, g6, b5, hlt, hw, hx, h1, h2, zis_snoc]) | (first | refine zV ?_) | (refine zR ?_; try simp) | (refine wOn ?_; try simp only [zZ])
     refine hL _ (N - 1) (by omega) ⟨k + 1, by omega, ?_⟩
     simp [g1, g9, g10, hs']
   ·by_cases h2 : x = n
    ·have hs' : wst (l.take (k + 1)) n = (o, true) := by rw [hs]; simp [wst1, h2]
     repeat' first | (refine hK _ ?_; clear hK) | (refine zU fun K hK => ?_) | (refine zS ?_; simp only [uU, uT, strip]) | ((first | refine wOs fun K hK => ?_ | refine zX ?_); simp [g1, g9, g10, g11, g6, hlt, hw, hx, h2]) | (first | refine zV ?_) | (refine zR ?_; try simp) | (refine wOn ?_; try simp only [zZ])
     refine hL _ (N - 1) (by omega) ⟨k + 1, by omega, ?_⟩
     simp [g1, g9, g10, g5, g6, b5, hs']
    ·have hs' : wst (l.take (k + 1)) n = (o ++ [x], true) := by rw [hs]; simp [wst1, h1, h2]
     repeat' first | (refine And.intro (by (try simp at hkl ⊢); omega) ?_) | (refine hK _ ?_; clear hK) | (refine zU fun K hK => ?_) | (refine zS ?_; simp only [uU, uT, strip]) | ((first | refine wOs fun K hK => ?_ | refine zX ?_); simp [g1, g9, g10, g11, g5, g6, b5, hlt, hw, hx, h1, h2, zis_snoc]) | (first | refine zV ?_) | (refine zR ?_; try simp) | (refine wOn ?_; try simp only [zZ])
     refine hL _ (N - 1) (by omega) ⟨k + 1, by omega, ?_⟩
     simp [g1, g9, g10, g6, hs']
  ·have h2 : ¬ x = n := by omega
   have hs' : wst (l.take (k + 1)) n = (o ++ [x], d) := by rw [hs]; simp [wst1, h1, h2]
   repeat' first | (refine And.intro (by (try simp at hkl ⊢); omega) ?_) | (refine hK _ ?_; clear hK) | (refine zU fun K hK => ?_) | (refine zS ?_; simp only [uU, uT, strip]) | ((first | refine wOs fun K hK => ?_ | refine zX ?_); simp [g1, g9, g10, g11, g5, g6, b5, hlt, hw, hx, h1, h2, zis_snoc]) | (first | refine zV ?_) | (refine zR ?_; try simp) | (refine wOn ?_; try simp only [zZ])
   refine hL _ (N - 1) (by omega) ⟨k + 1, by omega, ?_⟩
   simp [g1, g9, g10, g6, hs']
 ·rw [List.take_of_length_le (by omega)] at b5 g6 hkl
  unfold wth at hr
  generalize wst l n = q at g6 b5 hkl hr
  obtain ⟨o, d⟩ := q
  dsimp only at g6 b5 hkl hr
  cases d
  ·simp only [Bool.false_eq_true, if_false] at hr
   repeat' first | (refine And.intro (by (try simp at hkl ⊢); omega) ?_) | (refine hK _ ?_; clear hK) | (clear hK; refine hK _ ?_; clear hK) | (refine zU fun K hK => ?_) | (refine zS ?_; simp only [uU, uT, strip]) | ((first | refine wOs fun K hK => ?_ | refine zX ?_); simp [g1, g10, g11, g5, g6, b5, hlt, zis_snoc]) | ((first | refine zM ?_ | refine zH ?_); try simp) | (refine wOn ?_; try simp only [zZ])
   all_goals apply hr
   all_goals simp [Tryz.f134]
  ·simp only [if_true] at hr
   repeat' first | (refine hK _ ?_; clear hK) | (clear hK; refine hK _ ?_; clear hK) | (refine zU fun K hK => ?_) | (refine zS ?_; simp only [uU, uT, strip]) | ((first | refine wOs fun K hK => ?_ | refine zX ?_); simp [g10, g11, g5, g6, hlt]) | ((first | refine zM ?_ | refine zH ?_ | refine zR ?_); try simp) | (refine wOn ?_; try simp only [zZ])
   all_goals apply hr
   all_goals simp [Tryz.f134, b5]
theorem wst_true (n : Int) : ∀ (l o : List Int), l.foldl (wst1 n) (o, true) = (o ++ but l n, true)
 | [], o => by simp [but]
 | x :: l, o => by
  rw [List.foldl_cons]
  by_cases h : x = n
  ·rw [show wst1 n (o, true) x = (o, true) by simp [wst1, h], wst_true n l o]
   simp [but, h]
  ·rw [show wst1 n (o, true) x = (o ++ [x], true) by simp [wst1, h], wst_true n l (o ++ [x])]
   simp [but, h]
theorem wst_ins (n : Int) : ∀ (l o : List Int), (if (l.foldl (wst1 n) (o, false)).2 = true then (l.foldl (wst1 n) (o, false)).1 else (l.foldl (wst1 n) (o, false)).1 ++ [n]) = o ++ insI l n
 | [], o => by simp [insI, but, atI]
 | x :: l, o => by
  rw [List.foldl_cons]
  by_cases h1 : n <= x
  ·have ha : atI (x :: l) n = 0 := by rw [atI, if_neg (by omega)]
   by_cases h : x = n
   ·rw [show wst1 n (o, false) x = (o ++ [n], true) by simp [wst1, h], wst_true]
    simp only [if_true, insI, ha]
    simp [but, h]
   ·rw [show wst1 n (o, false) x = (o ++ [n] ++ [x], true) by simp [wst1, h1, h], wst_true]
    simp only [if_true, insI, ha]
    simp [but, h]
  ·have h : ¬ x = n := by omega
   rw [show wst1 n (o, false) x = (o ++ [x], false) by simp [wst1, h1, h], wst_ins n l (o ++ [x])]
   have ha : atI (x :: l) n = atI l n + 1 := by rw [atI, if_pos (by omega)]
   simp only [insI, ha]
   simp [but, h]
theorem wth_ins (l : List Int) (n : Int) : wth l n = insI l n := by
 unfold wth wst
 rw [wst_ins n l []]; rfl
end Go.Proofs.YtffflakmofbilaaGreat
namespace Go.Proofs.YtffflakmofbilaaGreat
set_option linter.unusedSimpArgs false
set_option linter.unusedVariables false
open Go Go.Av
theorem rst_sub (l : List Zn) (q : List UInt8) : (rst l q).Sublist l := by
 cases l with
 | nil => exact .slnil
 | cons x r =>
  rw [rst]; split
  ·exact List.sublist_cons_self x r
  ·exact List.Sublist.refl _
end Go.Proofs.YtffflakmofbilaaGreat
namespace Go.Proofs.YtffflakmofbilaaGreat
set_option linter.unusedSimpArgs false
set_option linter.unusedVariables false
open Go Go.Av
attribute [local irreducible] Go.Av.yG Go.Av.zQ Go.Av.yD Go.Av.zI Go.Av.yA Go.Av.yX Go.Av.Con
theorem rst_len (l : List Zn) (q : List UInt8) : (rst l q).length <= l.length := (rst_sub l q).length_le
theorem putZ_len (l : List Zn) (z : Zn) : (putZ l z).length <= l.length + 1 := by
 have := rst_len (l.drop (att l z.p)) z.p
 have h2 := att_le l z.p
 unfold putZ
 simp at this ⊢
 omega
theorem goneZ_len (l : List Zn) (p : List UInt8) : (gone l p).length <= l.length := List.length_filter_le _ _
theorem ints_zis (l : List Int) : ints l = zis l := rfl
def vW (s : Sv) (p : Pt) : Sv :=
 if p.k = 1 then { s with ns := putZ s.ns p.z } else if p.k = 2 then { s with ns := gone s.ns p.z.p }
 else if p.k = 3 then { s with ss := opnL s.ss p.s, nx := opnN s.nx p.s } else if p.k = 4 then { s with ss := but s.ss p.s }
 else if p.k = 5 then { s with c := p.c } else s
def runP (s : Sv) (l : List Pt) : Sv := l.foldl vW s
theorem runP_snoc (s : Sv) {l : List Pt} {k : Nat} (h : k < l.length) : runP s (l.take (k + 1)) = vW (runP s (l.take k)) l[k] := by
 rw [List.take_succ_eq_append_getElem h, runP, List.foldl_append]; rfl
def lateS (s : Sv) (e n : Int) : Sv := { s with ae := (lastZ [⟨s.ae, s.an⟩, ⟨e, n⟩]).e, an := (lastZ [⟨s.ae, s.an⟩, ⟨e, n⟩]).n }
def doS (s : Sv) (t : Tx) : Sv := lateS (runP s t.ps) t.e t.n
theorem insI_len (l : List Int) (s : Int) : (insI l s).length <= l.length + 1 := by
 have h := but_len l s
 unfold insI
 simp
 omega
theorem opnL_len (l : List Int) (s : Int) : (opnL l s).length <= l.length + 1 := by
 unfold opnL
 split
 ·exact insI_len l s
 ·omega
theorem stepP_len (s : Sv) (p : Pt) : (vW s p).ns.length <= s.ns.length + 1 /\ (vW s p).ss.length <= s.ss.length + 1 := by
 have h1 := putZ_len s.ns p.z
 have h2 := goneZ_len s.ns p.z.p
 have h3 := opnL_len s.ss p.s
 have h4 := but_len s.ss p.s
 unfold vW
 split
 ·exact ⟨h1, by simp⟩
 split
 ·exact ⟨by show (gone s.ns p.z.p).length <= _; omega, by simp⟩
 split
 ·exact ⟨by simp, h3⟩
 split
 ·exact ⟨by simp, by show (but s.ss p.s).length <= _; omega⟩
 split <;> exact ⟨by simp, by simp⟩
theorem runP_len : ∀ (l : List Pt) (s : Sv), (runP s l).ns.length <= s.ns.length + l.length /\ (runP s l).ss.length <= s.ss.length + l.length
 | [], s => ⟨by simp [runP], by simp [runP]⟩
 | p :: l, s => by
  have h := stepP_len s p
  have ih := runP_len l (vW s p)
  have e : runP s (p :: l) = runP (vW s p) l := rfl
  rw [e]
  simp only [List.length_cons]
  omega
theorem runP_take (s : Sv) (l : List Pt) (k : Nat) : (runP s (l.take k)).ns.length <= s.ns.length + l.length /\ (runP s (l.take k)).ss.length <= s.ss.length + l.length := by
 have h := runP_len (l.take k) s
 have : (l.take k).length <= l.length := by simp; omega
 omega
def okC (c : Cf) : Prop := c.ms.length <= 4398046510976
theorem stepP_c (s : Sv) (p : Pt) (hs : okC s.c) (hp : okC p.c) : okC (vW s p).c := by
 unfold vW
 split
 ·exact hs
 split
 ·exact hs
 split
 ·exact hs
 split
 ·exact hs
 split
 ·exact hp
 ·exact hs
theorem runP_c : ∀ (l : List Pt) (s : Sv), okC s.c -> (∀ p ∈ l, okC p.c) -> okC (runP s l).c
 | [], s, hs, _ => hs
 | p :: l, s, hs, hp => runP_c l (vW s p) (stepP_c s p hs (hp p (by simp))) fun q hq => hp q (by simp [hq])
def startS (c : Cf) : Sv := ⟨[⟨[47], [], 0, 0, 0⟩], [], 1, c, 0, 0⟩
structure Fits (s : Sv) (n : Nat) : Prop where
 ns : s.ns.length + n <= 1000000
 ss : s.ss.length + n <= 1000000
 c : okC s.c
def okT (t : Tx) : Prop := ∀ p ∈ t.ps, okC p.c
theorem doS_fits {s : Sv} {t : Tx} {n : Nat} (h : Fits s (t.ps.length + n)) (ht : okT t) : Fits (doS s t) n := by
 have h1 := runP_len t.ps s
 have h2 := runP_c t.ps s h.c ht
 refine ⟨?_, ?_, h2⟩
 ·have := h.ns
  show (runP s t.ps).ns.length + n <= _
  omega
 ·have := h.ss
  show (runP s t.ps).ss.length + n <= _
  omega
def allS (s : Sv) (l : List Tx) : Sv := l.foldl doS s
theorem allS_snoc (s : Sv) {l : List Tx} {k : Nat} (h : k < l.length) : allS s (l.take (k + 1)) = doS (allS s (l.take k)) l[k] := by
 rw [List.take_succ_eq_append_getElem h, allS, List.foldl_append]; rfl
def psum (l : List Tx) : Nat := (l.map fun t => t.ps.length).sum
theorem psum_cons (t : Tx) (l : List Tx) : psum (t :: l) = t.ps.length + psum l := by simp [psum]
theorem psum_drop {l : List Tx} {k : Nat} (h : k < l.length) : psum (l.drop k) = l[k].ps.length + psum (l.drop (k + 1)) := by
 rw [List.drop_eq_getElem_cons h, psum_cons]
theorem Fits.le {s : Sv} {n m : Nat} (h : Fits s n) (hm : m <= n) : Fits s m := ⟨by have := h.ns; omega, by have := h.ss; omega, h.c⟩
theorem start08_con (c : Cf) (hc : okC c) : zF Tryz.prog 32 [.p (.agg c.cells)] (.p (.agg (startS c).cells)) := by
 have c1 := root07_con
 have c2 := copied08_con c.ep c.n c.kind (mbs c.ms) (by rw [uY]; exact hc)
 unfold startS Sv.cells Cf.cells
 dsimp only
 generalize zns [⟨[47], [], 0, 0, 0⟩] = r at c1 ⊢
 rw [show ints [] = [] from rfl]
 refine zL Tryz.tab Tryz.mixed Tryz.func32 rfl rfl Tryz.ntmps32 (by simp) (by simp) fun Q hr hn => ?_
 repeat' first | (refine hK _ ?_; clear hK) | (refine hK _ _ ?_; clear hK) | (refine zU fun K hK => ?_) | ((first | refine zS ?_ | refine yE ?_); simp only [uU, uT, strip]) | ((first | refine wIs fun K hK => ?_ | refine wOs fun K hK => ?_ | refine yS ?_); simp) | (refine wIn ?_; refine And.intro (by kernel_rfl) ?_; try simp only [zZ]) | (refine zM ?_; try simp) | (refine wOn ?_; try simp only [zZ]) | (refine yX.pure (c1) rfl ?_) | (refine yX.pure (c2) rfl ?_)
 all_goals apply hr
 all_goals simp [Tryz.f32]
theorem last2 (a b : Zx) : lastZ [a, b] = if 0 < xF b.e b.n a.e a.n then b else a := rfl
set_option maxHeartbeats 8000000 in
theorem apply08_con (s : Sv) (t : Tx) (h : Fits s t.ps.length) (ht : okT t) : zF Tryz.prog 104 [.p (.agg s.cells), .p (.agg t.cells)] (.p (.agg (doS s t).cells)) := by
 have h1 := h.ns
 have h2 := h.ss
 have c1 := copied08_con s.c.ep s.c.n s.c.kind (mbs s.c.ms) (by rw [uY]; exact h.c)
 unfold Sv.cells Tx.cells
 simp only [ints_zis]
 refine zL Tryz.tab Tryz.mixed Tryz.func104 rfl rfl Tryz.ntmps104 (by simp) (by simp) fun Q hr hn => ?_
 repeat' first | (refine And.intro (by (try simp); omega) ?_) | (refine Or.inr ?_) | (refine hK _ ?_; clear hK) | (refine hK _ _ ?_; clear hK) | (refine zU fun K hK => ?_) | ((first | refine zS ?_ | refine yE ?_); simp only [uU, uT, strip]) | ((first | refine wIs fun K hK => ?_ | refine wOs fun K hK => ?_ | refine yS ?_); simp) | (refine wIn ?_; refine And.intro (by kernel_rfl) ?_; try simp only [zZ]) | (first | refine zV ?_) | (refine wOn ?_; try simp only [zZ]) | (refine yX.pure (c1) rfl ?_)
 refine yU (fun N st => ∃ k, k + N = t.ps.length /\ st.s 4 = .ptr 4 0 /\ st.s 3 = .ptr 3 0 /\ st.s 5 = .ptr 5 0 /\ st.s 25 = .p (.sl 11 (pts t.ps)) /\ st.s 26 = .p (I t.ps.length) /\ st.s 27 = .p (I k) /\ st.b 4 = some (.box 30 [.nil 5, .nil 1, .p (I 0), .p (I 0), .p (I 0), .p (I 0), .nil 4, .p (I 0), .p (I 0)]) /\ st.b 3 = some (.box 58 [.p (I t.e), .p (I t.n), .p (I t.s), .p (I t.x), .p (I t.r), .p (I t.b), .p (SB t.m), .p (.sl 11 (pts t.ps))]) /\ st.b 5 = some (.box 30 [.p (.sl 5 (zns (runP s (t.ps.take k)).ns)), .p (.sl 1 (zis (runP s (t.ps.take k)).ss)), .p (I (runP s (t.ps.take k)).nx), .p (I (runP s (t.ps.take k)).c.ep), .p (I (runP s (t.ps.take k)).c.n), .p (I (runP s (t.ps.take k)).c.kind), .p (.sl 4 (mbs (runP s (t.ps.take k)).c.ms)), .p (I (runP s (t.ps.take k)).ae), .p (I (runP s (t.ps.take k)).an)])) t.ps.length ⟨0, by simp [runP]⟩ fun K N st hL ⟨k, hk, g4, g3, g5, g25, g26, g27, b4, b3, b5⟩ => ?_
 have hlen := runP_take s t.ps k
 by_cases hlt : k < t.ps.length
 ·have hw := wrapX k _ hlt (by omega)
  have he := pts_get hlt
  have hs := runP_snoc s hlt
  have hpc := ht t.ps[k] (List.getElem_mem hlt)
  generalize runP s (t.ps.take k) = q at hs hlen b5
  unfold okC at hpc
  by_cases k1 : t.ps[k].k = 1
  ·have c := put07_con q.ns t.ps[k].z (by omega)
   unfold Zn.c at c
   have hs' : vW q t.ps[k] = { q with ns := putZ q.ns t.ps[k].z } := by unfold vW; rw [if_pos k1]
   generalize putZ q.ns t.ps[k].z = n1 at c hs'
   repeat' first | (refine hK _ ?_; clear hK) | (refine zU fun K hK => ?_) | (refine zS ?_; simp only [uU, uT, strip]) | ((first | refine wOs fun K hK => ?_ | refine zY ?_ | refine zX ?_); simp [g5, g25, g26, g27, b5, hlt, hw, k1]) | (first | refine zV ?_) | (refine zR ?_; try simp) | (refine wOn ?_; try simp only [zZ]) | (refine zQ.pure (c) rfl ?_)
   refine hL _ (N - 1) (by omega) ⟨k + 1, by omega, ?_⟩
   simp [g4, g3, g5, g25, g26, b4, b3, hs, hs']
  by_cases k2 : t.ps[k].k = 2
  ·have c := gone07_con q.ns t.ps[k].z.p (by omega)
   have hs' : vW q t.ps[k] = { q with ns := gone q.ns t.ps[k].z.p } := by unfold vW; rw [if_neg k1, if_pos k2]
   generalize gone q.ns t.ps[k].z.p = n1 at c hs'
   repeat' first | (refine hK _ ?_; clear hK) | (refine zU fun K hK => ?_) | (refine zS ?_; simp only [uU, uT, strip]) | ((first | refine wOs fun K hK => ?_ | refine zY ?_ | refine zX ?_); simp [g5, g25, g26, g27, b5, hlt, hw, k2]) | (first | refine zV ?_) | (refine zR ?_; try simp) | (refine wOn ?_; try simp only [zZ]) | (refine zQ.pure (c) rfl ?_)
   refine hL _ (N - 1) (by omega) ⟨k + 1, by omega, ?_⟩
   simp [g4, g3, g5, g25, g26, b4, b3, hs, hs']
  by_cases k3 : t.ps[k].k = 3
  ·have hs' : vW q t.ps[k] = { q with ss := opnL q.ss t.ps[k].s, nx := opnN q.nx t.ps[k].s } := by unfold vW; rw [if_neg k1, if_neg k2, if_pos k3]
   by_cases o1 : 1 <= t.ps[k].s
   ·by_cases o2 : t.ps[k].s <= 1099511627776
    ·have ho : okS t.ps[k].s = true := decide_eq_true ⟨o1, o2⟩
     have hw1 : IntKind.i64.wrap (t.ps[k].s + 1) = t.ps[k].s + 1 := by rw [zE] <;> omega
     have c := with08_con q.ss t.ps[k].s (by omega)
     rw [wth_ins] at c
     have e1 : opnL q.ss t.ps[k].s = insI q.ss t.ps[k].s := by unfold opnL; rw [if_pos ho]
     have e2 : opnN q.nx t.ps[k].s = max q.nx (t.ps[k].s + 1) := by unfold opnN; rw [if_pos ho]
     rw [e1, e2] at hs'
     generalize insI q.ss t.ps[k].s = n1 at c hs'
     repeat' first | (refine hK _ ?_; clear hK) | (refine zU fun K hK => ?_) | (refine zS ?_; simp only [uU, uT, strip]) | ((first | refine wOs fun K hK => ?_ | refine zY ?_ | refine zX ?_); simp [g5, g25, g26, g27, b5, hlt, hw, k3, o1, o2, hw1]) | (first | refine zV ?_) | (refine zR ?_; try simp) | (refine wOn ?_; try simp only [zZ]) | (refine zQ.pure (c) rfl ?_)
     all_goals refine hL _ (N - 1) (by omega) ⟨k + 1, by omega, ?_⟩
     all_goals simp [g4, g3, g5, g25, g26, b4, b3, hs, hs']
     all_goals omega
    ·have ho : ¬ okS t.ps[k].s = true := by unfold okS; simp; omega
     have e1 : opnL q.ss t.ps[k].s = q.ss := by unfold opnL; rw [if_neg ho]
     have e2 : opnN q.nx t.ps[k].s = q.nx := by unfold opnN; rw [if_neg ho]
     rw [e1, e2] at hs'
     repeat' first | (refine hK _ ?_; clear hK) | (refine zU fun K hK => ?_) | (refine zS ?_; simp only [uU, uT, strip]) | ((first | refine wOs fun K hK => ?_ | refine zX ?_); simp [g25, g26, g27, hlt, hw, k3, o1, o2]) | (first | refine zV ?_) | (refine zR ?_; try simp) | (refine wOn ?_; try simp only [zZ])
     all_goals refine hL _ (N - 1) (by omega) ⟨k + 1, by omega, ?_⟩
     all_goals simp [g4, g3, g5, g25, g26, b4, b3, b5, hs, hs']
   ·have ho : ¬ okS t.ps[k].s = true := by unfold okS; simp; omega
    have e1 : opnL q.ss t.ps[k].s = q.ss := by unfold opnL; rw [if_neg ho]
    have e2 : opnN q.nx t.ps[k].s = q.nx := by unfold opnN; rw [if_neg ho]
    rw [e1, e2] at hs'
    repeat' first | (refine hK _ ?_; clear hK) | (refine zU fun K hK => ?_) | (refine zS ?_; simp only [uU, uT, strip]) | ((first | refine wOs fun K hK => ?_ | refine zX ?_); simp [g25, g26, g27, hlt, hw, k3, o1]) | (first | refine zV ?_) | (refine zR ?_; try simp) | (refine wOn ?_; try simp only [zZ])
    all_goals refine hL _ (N - 1) (by omega) ⟨k + 1, by omega, ?_⟩
    all_goals simp [g4, g3, g5, g25, g26, b4, b3, b5, hs, hs']
  by_cases k4 : t.ps[k].k = 4
  ·have c := without08_con q.ss t.ps[k].s (by omega)
   have hs' : vW q t.ps[k] = { q with ss := but q.ss t.ps[k].s } := by unfold vW; rw [if_neg k1, if_neg k2, if_neg k3, if_pos k4]
   generalize but q.ss t.ps[k].s = n1 at c hs'
   repeat' first | (refine hK _ ?_; clear hK) | (refine zU fun K hK => ?_) | (refine zS ?_; simp only [uU, uT, strip]) | ((first | refine wOs fun K hK => ?_ | refine zY ?_ | refine zX ?_); simp [g5, g25, g26, g27, b5, hlt, hw, k4]) | (first | refine zV ?_) | (refine zR ?_; try simp) | (refine wOn ?_; try simp only [zZ]) | (refine zQ.pure (c) rfl ?_)
   refine hL _ (N - 1) (by omega) ⟨k + 1, by omega, ?_⟩
   simp [g4, g3, g5, g25, g26, b4, b3, hs, hs']
  by_cases k5 : t.ps[k].k = 5
  ·have c := copied08_con t.ps[k].c.ep t.ps[k].c.n t.ps[k].c.kind (mbs t.ps[k].c.ms) (by rw [uY]; exact hpc)
   have hs' : vW q t.ps[k] = { q with c := t.ps[k].c } := by unfold vW; rw [if_neg k1, if_neg k2, if_neg k3, if_neg k4, if_pos k5]
   repeat' first | (refine hK _ ?_; clear hK) | (refine zU fun K hK => ?_) | (refine zS ?_; simp only [uU, uT, strip]) | ((first | refine wOs fun K hK => ?_ | refine zY ?_ | refine zX ?_); simp [g5, g25, g26, g27, b5, hlt, hw, k5]) | (first | refine zV ?_) | (refine zR ?_; try simp) | (refine wOn ?_; try simp only [zZ]) | (refine zQ.pure (c) rfl ?_)
   refine hL _ (N - 1) (by omega) ⟨k + 1, by omega, ?_⟩
   simp [g4, g3, g5, g25, g26, b4, b3, hs, hs']
  ·have hs' : vW q t.ps[k] = q := by unfold vW; rw [if_neg k1, if_neg k2, if_neg k3, if_neg k4, if_neg k5]
   repeat' first | (refine hK _ ?_; clear hK) | (refine zU fun K hK => ?_) | (refine zS ?_; simp only [uU, uT, strip]) | ((first | refine wOs fun K hK => ?_ | refine zX ?_); simp [g25, g26, g27, hlt, hw, k1, k2, k3, k4, k5]) | (first | refine zV ?_) | (refine zR ?_; try simp) | (refine wOn ?_; try simp only [zZ])
   refine hL _ (N - 1) (by omega) ⟨k + 1, by omega, ?_⟩
   simp [g4, g3, g5, g25, g26, b4, b3, b5, hs, hs']
 ·rw [List.take_of_length_le (by omega)] at b5
  unfold doS lateS at hr
  simp only [last2] at hr
  generalize runP s t.ps = q at hr b5
  have c := cmp02_con t.e t.n q.ae q.an
  by_cases o : 0 < xF t.e t.n q.ae q.an
  ·simp only [if_pos o] at hr
   repeat' first | (refine hK _ ?_; clear hK) | (clear hK; refine hK _ ?_; clear hK) | (refine zU fun K hK => ?_) | (refine zS ?_; simp only [uU, uT, strip]) | ((first | refine wOs fun K hK => ?_ | refine zY ?_ | refine zX ?_); simp [g4, g3, g5, g26, g27, b4, b3, b5, hlt, o]) | ((first | refine zM ?_ | refine zH ?_); try simp) | (refine wOn ?_; try simp only [zZ]) | (refine zQ.pure (c) rfl ?_)
   all_goals apply hr
   all_goals simp [Tryz.f104, g4]
  ·simp only [if_neg o] at hr
   repeat' first | (refine hK _ ?_; clear hK) | (clear hK; refine hK _ ?_; clear hK) | (refine zU fun K hK => ?_) | (refine zS ?_; simp only [uU, uT, strip]) | ((first | refine wOs fun K hK => ?_ | refine zY ?_ | refine zX ?_); simp [g4, g3, g5, g26, g27, b4, b3, b5, hlt, o]) | ((first | refine zM ?_ | refine zH ?_ | refine zR ?_); try simp) | (refine wOn ?_; try simp only [zZ]) | (refine zQ.pure (c) rfl ?_)
   all_goals apply hr
   all_goals simp [Tryz.f104, g4]
theorem doS_at (s : Sv) (a b c d : Int) (m : List UInt8) : doS s ⟨s.ae, s.an, a, b, c, d, m, []⟩ = s := by
 unfold doS lateS runP
 rw [last2]
 simp [xF]
set_option maxHeartbeats 4000000 in
theorem all08_con (s : Sv) (l : List Tx) (hs : Fits s (psum l)) (ht : ∀ t ∈ l, okT t) : zF Tryz.prog 74 [.p (.agg s.cells), .p (.sl 8 (yY l))] (.p (.agg (allS s l).cells)) := by
 refine zF.len ⟨Tryz.f74, Tryz.func74, rfl, rfl⟩ 1 _ _ rfl fun hlen => ?_
 simp only [txns_len] at hlen
 have c1 := apply08_con s ⟨s.ae, s.an, 0, 0, 0, 0, [], []⟩ (hs.le (by simp)) (fun p hp => by simp at hp)
 rw [doS_at] at c1
 unfold Tx.cells Sv.cells at c1
 rw [show pts [] = [] from rfl] at c1
 unfold Sv.cells
 refine zL Tryz.tab Tryz.mixed Tryz.func74 rfl rfl Tryz.ntmps74 (by simp) (by simp) fun Q hr hn => ?_
 repeat' first | (refine hK _ ?_; clear hK) | (refine zU fun K hK => ?_) | (refine zS ?_; simp only [uU, uT, strip]) | ((first | refine wOs fun K hK => ?_ | refine zY ?_); simp) | (first | refine zV ?_) | (refine wOn ?_; try simp only [zZ]) | (refine zQ.pure (c1) rfl ?_)
 refine yU (fun N st => ∃ k, k + N = l.length /\ Fits (allS s (l.take k)) (psum (l.drop k)) /\ st.s 5 = .ptr 5 0 /\ st.s 4 = .ptr 4 0 /\ st.s 13 = .p (.sl 8 (yY l)) /\ st.s 14 = .p (I l.length) /\ st.s 15 = .p (I k) /\ st.b 4 = some (.box 30 [.nil 5, .nil 1, .p (I 0), .p (I 0), .p (I 0), .p (I 0), .nil 4, .p (I 0), .p (I 0)]) /\ st.b 5 = some (.box 30 [.p (.sl 5 (zns (allS s (l.take k)).ns)), .p (.sl 1 (ints (allS s (l.take k)).ss)), .p (I (allS s (l.take k)).nx), .p (I (allS s (l.take k)).c.ep), .p (I (allS s (l.take k)).c.n), .p (I (allS s (l.take k)).c.kind), .p (.sl 4 (mbs (allS s (l.take k)).c.ms)), .p (I (allS s (l.take k)).ae), .p (I (allS s (l.take k)).an)])) l.length ⟨0, by simp [allS]; exact hs⟩ fun K N st hL ⟨k, hk, hf, g5, g4, g13, g14, g15, b4, b5⟩ => ?_
 by_cases hlt : k < l.length
 ·have hw := wrapX k _ hlt (by omega)
  have he := wR hlt
  have hsn := allS_snoc s hlt
  have hps := psum_drop hlt
  have htk := ht l[k] (List.getElem_mem hlt)
  rw [hps] at hf
  have hf2 := doS_fits hf htk
  rw [<- hsn] at hf2
  generalize allS s (l.take k) = q at hsn hf b5
  have c2 := apply08_con q l[k] (hf.le (by omega)) htk
  rw [<- hsn] at c2
  unfold Sv.cells Tx.cells at c2
  generalize hr' : allS s (l.take (k + 1)) = r at c2 hf2
  repeat' first | (refine hK _ ?_; clear hK) | (refine zU fun K hK => ?_) | (refine zS ?_; simp only [uU, uT, strip]) | ((first | refine wOs fun K hK => ?_ | refine zY ?_ | refine zX ?_); simp [g5, g13, g14, g15, b5, hlt, hw]) | (first | refine zV ?_) | (refine zR ?_; try simp) | (refine wOn ?_; try simp only [zZ]) | (refine zQ.pure (c2) rfl ?_)
  refine hL _ (N - 1) (by omega) ⟨k + 1, by omega, ?_⟩
  simp [g5, g4, g13, g14, b4, hr']
  exact hf2
 ·rw [List.take_of_length_le (by omega)] at b5
  generalize allS s l = q at b5 hr
  repeat' first | (refine hK _ ?_; clear hK) | (clear hK; refine hK _ ?_; clear hK) | (refine zU fun K hK => ?_) | (refine zS ?_; simp only [uU, uT, strip]) | ((first | refine wOs fun K hK => ?_ | refine zX ?_); simp [g5, g4, g14, g15, b4, b5, hlt]) | ((first | refine zM ?_ | refine zH ?_); try simp) | (refine wOn ?_; try simp only [zZ])
  all_goals apply hr
  all_goals simp [Tryz.f74, g4]
theorem pts_snoc (l : List Pt) (x : Pt) : pts l ++ [[I x.k, SB x.z.p, SB x.z.d, I x.z.v, I x.z.k, I x.z.o, I x.s, I x.c.ep, I x.c.n, I x.c.kind, .sl 4 (mbs x.c.ms)]] = pts (l ++ [x]) := by simp [pts, Pt.cells]
theorem txns_snoc (l : List Tx) (t : Tx) : yY l ++ [[I t.e, I t.n, I t.s, I t.x, I t.r, I t.b, SB t.m, .sl 11 (pts t.ps)]] = yY (l ++ [t]) := by simp [yY, Tx.cells]
set_option maxHeartbeats 4000000 in
theorem copied16_con (t : Tx) (hl : t.ps.length <= 1000) (hc : ∀ p ∈ t.ps, p.c.ms.length <= 1000) : zF Tryz.prog 72 [.p (.agg t.cells)] (.p (.agg t.cells)) := by
 unfold Tx.cells
 refine zL Tryz.tab Tryz.mixed Tryz.func72 rfl rfl Tryz.ntmps72 (by simp) (by simp) fun Q hr hn => ?_
 repeat' first | (refine hK _ ?_; clear hK) | (refine zU fun K hK => ?_) | (refine zS ?_; simp only [uU, uT, strip]) | (refine wOs fun K hK => ?_; simp) | (first | refine zV ?_) | (refine wOn ?_; try simp only [zZ])
 refine wLoopG [.cel 1 7 26 131 11] (fun N st => ∃ (k : Nat), k + N = t.ps.length /\ st.s 1 = .ptr 1 0 /\ st.b 1 = some (.box 58 [.p (I t.e), .p (I t.n), .p (I t.s), .p (I t.x), .p (I t.r), .p (I t.b), .p (SB t.m), .row 26]) /\ st.s 2 = .ptr 2 0 /\ st.b 2 = some (.box 58 [.p (I 0), .p (I 0), .p (I 0), .p (I 0), .p (I 0), .p (I 0), .p (SB []), .nil 11]) /\ st.b 26 = some (.row 131 11 (pts (t.ps.take k))) /\ st.s 9 = .p (.sl 11 (pts t.ps)) /\ st.s 10 = .p (I t.ps.length) /\ st.s 11 = .p (I k)) t.ps.length ⟨0, by simp [vX, gh1, pts]⟩ fun K N st hL ⟨k, hk, g1, b1, g2, b2, b26, g9, g10, g11⟩ => ?_
 by_cases hlt : k < t.ps.length
 ·have hlt' : (k : Int) < t.ps.length := by omega
  have hw := yT k _ hlt (by omega)
  have he := pts_get hlt
  have hpc := hc _ (List.getElem_mem hlt)
  have hs := pts_snoc (t.ps.take k) t.ps[k]
  rw [<- List.take_succ_eq_append_getElem hlt] at hs
  have hll := pts_len (t.ps.take k)
  rw [List.length_take] at hll
  repeat' first | (refine And.intro (by (try simp only [hll, uY, List.length_cons, List.length_nil]); omega) ?_) | (refine Or.inr ?_) | (refine hK _ ?_; clear hK) | (refine zU fun K hK => ?_) | (refine zS ?_; simp only [uU, uT, strip]) | ((first | refine wOs fun K hK => ?_ | refine zX ?_); simp [g1, b1, b26, g9, g10, g11, hlt, hlt', hw, Pt.cells, hs]) | (first | refine zV ?_) | (refine zR ?_; try simp) | (refine wOn ?_; try simp only [zZ])
  refine hL _ (N - 1) (by omega) ⟨k + 1, by omega, ?_⟩
  simp [g1, g2, b2, g9, g10]
 ·have hlt' : ¬ (k : Int) < t.ps.length := by omega
  rw [List.take_of_length_le (by omega)] at b26
  repeat' first | (refine hK _ ?_; clear hK) | (clear hK; refine hK _ ?_; clear hK) | (refine zU fun K hK => ?_) | (refine zS ?_; simp only [uU, uT, strip]) | ((first | refine wOs fun K hK => ?_ | refine zX ?_); simp [g1, b1, g2, b2, g10, g11, hlt']) | ((first | refine zM ?_ | refine zH ?_); try simp) | (refine wOn ?_; try simp only [zZ])
  all_goals apply hr
  all_goals simp [Tryz.f72, g2, b26]
theorem own16_con (s : Sv) (h1 : s.ns.length <= 1000) (h2 : s.ss.length <= 1000) (h3 : s.c.ms.length <= 1000) : zF Tryz.prog 43 [.p (.agg s.cells)] (.p (.agg s.cells)) := by
 have c := all08_con s [] ⟨by simp [psum]; omega, by simp [psum]; omega, by unfold okC; omega⟩ (by simp)
 rw [show allS s [] = s from rfl, show yY [] = [] from rfl] at c
 unfold Sv.cells at c ⊢
 refine zL Tryz.tab Tryz.mixed Tryz.func43 rfl rfl Tryz.ntmps43 (by simp) (by simp) fun Q hr hn => ?_
 repeat' first | (refine hK _ ?_; clear hK) | (refine zU fun K hK => ?_) | (refine zS ?_; simp only [uU, uT, strip]) | ((first | refine wOs fun K hK => ?_ | refine zY ?_); simp) | (refine zM ?_; try simp) | (refine wOn ?_; try simp only [zZ]) | (refine zQ.pure (c) rfl ?_)
 all_goals apply hr
 all_goals simp [Tryz.f43]
def comd (fe fn te tn : Int) (l : List Tx) : List Tx := l.filter fun t => decide (0 < xF t.e t.n fe fn /\ xF t.e t.n te tn <= 0)
theorem comd_snoc (fe fn te tn : Int) {l : List Tx} {k : Nat} (h : k < l.length) : comd fe fn te tn (l.take (k + 1)) = if 0 < xF l[k].e l[k].n fe fn /\ xF l[k].e l[k].n te tn <= 0 then comd fe fn te tn (l.take k) ++ [l[k]] else comd fe fn te tn (l.take k) := by
 rw [List.take_succ_eq_append_getElem h]
 unfold comd
 rw [List.filter_append]
 by_cases g : 0 < xF l[k].e l[k].n fe fn /\ xF l[k].e l[k].n te tn <= 0
 ·rw [if_pos g, List.filter_cons, if_pos (decide_eq_true g)]; simp
 ·rw [if_neg g, List.filter_cons, if_neg (by simpa using g)]; simp
theorem comd_len (fe fn te tn : Int) (l : List Tx) : (comd fe fn te tn l).length <= l.length := List.length_filter_le _ _
set_option maxHeartbeats 4000000 in
theorem committed_con (h : Hy) (fe fn te tn : Int) (hk : OkH h) : zF Tryz.prog 51 [.p (.agg h.cells), .p (.agg [I fe, I fn]), .p (.agg [I te, I tn])] (.p (.sl 8 (yY (comd fe fn te tn h.lg)))) := by
 have hlg := hk.lg
 unfold Hy.cells
 refine zL Tryz.tab Tryz.mixed Tryz.func51 rfl rfl Tryz.ntmps51 (by simp) (by simp) fun Q hr hn => ?_
 repeat' first | (refine hK _ ?_; clear hK) | (refine zU fun K hK => ?_) | (refine zS ?_; simp only [uU, uT, strip]) | (refine wOs fun K hK => ?_; simp) | (first | refine zV ?_) | (refine wOn ?_; try simp only [zZ])
 refine wLoopG [.row 7 58 8] (fun N st => ∃ (k : Nat), k + N = h.lg.length /\ st.s 4 = .ptr 4 0 /\ st.b 4 = some (.box 25 [.p (I fe), .p (I fn)]) /\ st.s 5 = .ptr 5 0 /\ st.b 5 = some (.box 25 [.p (I te), .p (I tn)]) /\ st.s 7 = .row 7 /\ st.b 7 = some (.row 58 8 (yY (comd fe fn te tn (h.lg.take k)))) /\ st.s 11 = .p (.sl 8 (yY h.lg)) /\ st.s 12 = .p (I h.lg.length) /\ st.s 13 = .p (I k)) h.lg.length ⟨0, by simp [vX, gh1, comd, yY]⟩ fun K N st hL ⟨k, hkN, g4, b4, g5, b5, g7, b7, gs, gl, gk⟩ => ?_
 by_cases hlt : k < h.lg.length
 ·have hlt' : (k : Int) < h.lg.length := by omega
  have hw := yT k _ hlt (by omega)
  have he := wR hlt
  have c1 := uW h.lg[k].e h.lg[k].n fe fn
  have c2 := uW h.lg[k].e h.lg[k].n te tn
  have hsn := comd_snoc fe fn te tn hlt
  have hcl := comd_len fe fn te tn (h.lg.take k)
  rw [List.length_take] at hcl
  obtain ⟨hp1, hp2⟩ := hk.ps _ (List.getElem_mem hlt)
  have c3 := ownTxn_con h.lg[k] hp1 hp2
  unfold Tx.cells at c3
  have s1 := txns_snoc (comd fe fn te tn (h.lg.take k)) h.lg[k]
  by_cases o1 : 0 < xF h.lg[k].e h.lg[k].n fe fn
  ·by_cases o2 : xF h.lg[k].e h.lg[k].n te tn <= 0
   ·rw [if_pos ⟨o1, o2⟩] at hsn
    generalize comd fe fn te tn (h.lg.take k) = q at *
    have hql := txns_len q
    repeat' first | (refine And.intro (by (try simp only [hql, List.length_cons, List.length_nil]); omega) ?_) | (refine hK _ ?_; clear hK) | (refine zU fun K hK => ?_) | (refine zS ?_; simp only [uU, uT, strip]) | ((first | refine wOs fun K hK => ?_ | refine zY ?_ | refine zX ?_); simp [g4, b4, g5, b5, g7, b7, gs, gl, gk, hlt, hlt', hw, o1, o2, s1]) | (first | refine zV ?_) | (refine zR ?_; try simp) | (refine wOn ?_; try simp only [zZ]) | (refine zQ.pure (c1) rfl ?_) | (refine zQ.pure (c2) rfl ?_) | (refine zQ.pure (c3) rfl ?_)
    refine hL _ (N - 1) (by omega) ⟨k + 1, by omega, ?_⟩
    simp [g4, b4, g5, b5, gs, gl, hsn]
   ·rw [if_neg (fun h => o2 h.2)] at hsn
    repeat' first | (refine hK _ ?_; clear hK) | (refine zU fun K hK => ?_) | (refine zS ?_; simp only [uU, uT, strip]) | ((first | refine wOs fun K hK => ?_ | refine zY ?_ | refine zX ?_); simp [g4, b4, g5, b5, gs, gl, gk, hlt, hlt', hw, o1, o2]) | (first | refine zV ?_) | (refine zR ?_; try simp) | (refine wOn ?_; try simp only [zZ]) | (refine zQ.pure (c1) rfl ?_) | (refine zQ.pure (c2) rfl ?_)
    refine hL _ (N - 1) (by omega) ⟨k + 1, by omega, ?_⟩
    simp [g4, b4, g5, b5, g7, b7, gs, gl, hsn]
  ·rw [if_neg (fun h => o1 h.1)] at hsn
   repeat' first | (refine hK _ ?_; clear hK) | (refine zU fun K hK => ?_) | (refine zS ?_; simp only [uU, uT, strip]) | ((first | refine wOs fun K hK => ?_ | refine zY ?_ | refine zX ?_); simp [g4, b4, g5, b5, gs, gl, gk, hlt, hlt', hw, o1]) | (first | refine zV ?_) | (refine zR ?_; try simp) | (refine wOn ?_; try simp only [zZ]) | (refine zQ.pure (c1) rfl ?_)
   refine hL _ (N - 1) (by omega) ⟨k + 1, by omega, ?_⟩
   simp [g4, b4, g5, b5, g7, b7, gs, gl, hsn]
 ·have hlt' : ¬ (k : Int) < h.lg.length := by omega
  rw [List.take_of_length_le (by omega)] at b7
  repeat' first | (refine hK _ ?_; clear hK) | (clear hK; refine hK _ ?_; clear hK) | (refine zU fun K hK => ?_) | (refine zS ?_; simp only [uU, uT, strip]) | ((first | refine wOs fun K hK => ?_ | refine zX ?_); simp [g7, gl, gk, hlt']) | ((first | refine zM ?_ | refine zH ?_); try simp) | (refine wOn ?_; try simp only [zZ])
  all_goals apply hr
  all_goals simp [Tryz.f51, b7]
end Go.Proofs.YtffflakmofbilaaGreat
namespace Go.Proofs.YtffflakmofbilaaGreat
set_option linter.unusedSimpArgs false
set_option linter.unusedVariables false
set_option maxRecDepth 8000
open Go Go.Av
attribute [local irreducible] Go.Av.yG Go.Av.zQ Go.Av.yD Go.Av.zI Go.Av.yA Go.Av.yX Go.Av.Con
structure Sq where
 p : Lq
 g : Bool
 o : List Mg
abbrev sqW (s : Sq) : List Blk := lW s.p s.g s.o
def Sq.send (s : Sq) (to : Int) (m : Mg) : Sq := { s with o := s.o ++ [xU s.p to m] }
def Sq.lay (s : Sq) (x : Lr) : Sq := { s with p := { s.p with ls := xE s.p.ls x } }
abbrev mgK (kd : Int) : Mg := mgZ 0 0 kd 0 0 ⟨0, 0⟩ []
structure OkS (n b : Nat) (s : Sq) : Prop where
 hk : OkH s.p.h
 ll : s.p.ls.length <= n
 lo : s.o.length <= b
 lm : ∀ y ∈ s.p.ls, y.ms.length <= 1000000
theorem OkS.mono {n b n' b' : Nat} {s : Sq} (h : OkS n b s) (h1 : n <= n') (h2 : b <= b') : OkS n' b' s := ⟨h.hk, Nat.le_trans h.ll h1, Nat.le_trans h.lo h2, h.lm⟩
theorem OkS.send {n b : Nat} {s : Sq} (h : OkS n b s) (to : Int) (m : Mg) : OkS n (b + 1) (s.send to m) := ⟨h.hk, h.ll, by have := h.lo; simp [Sq.send]; omega, h.lm⟩
theorem OkS.lay {n b : Nat} {s : Sq} (h : OkS n b s) {x : Lr} (hx : x.ms.length <= 1000000) : OkS (n + 1) b (s.lay x) := by
 refine ⟨h.hk, ?_, h.lo, fun y hy => ?_⟩
 ·have := layL_len s.p.ls x
  have := h.ll
  simp only [Sq.lay]; omega
 ·rcases layL_mem hy with rfl | hy
  ·exact hx
  ·exact h.lm y hy
theorem OkS.needs {n b : Nat} {s : Sq} (h : OkS n b s) : (yZ s.p.h s.p.d.e s.p.d.n).length <= 2 /\ ∀ c ∈ yZ s.p.h s.p.d.e s.p.d.n, c.ms.length <= 1000 := ⟨endN_len _ _ _, needs_ok h.hk _ _⟩
theorem voterS_con {n b : Nat} {s : Sq} (h : OkS n b s) : Con Tryz.prog 50 [.ptr 1024 0] (sqW s) (.ret (.clo ⟨82, false⟩ [.rp [.sl 1 (ints (zC s.p))] 0]) [] (sqW s)) :=
 voter_con s.p s.g s.o h.hk (by have := h.needs.1; omega) (fun c hc => by have := h.needs.2 c hc; omega)
structure Pn where
 (k : Int)
 (z : Zx)
 (im : Sv)
 (l : List Tx)
def vG (h : Hy) (ms : List Zx) : Pn := match lastIn (mks h) ms (mks h).length with
 | some i => ⟨if ms.getLast? = some ((mks h).getD i ⟨0, 0⟩) then 1 else 2, (mks h).getD i ⟨0, 0⟩, sv0, h.lg.drop i⟩
 | none => ⟨3, ⟨0, 0⟩, h.im, h.lg⟩
theorem makeP_eq (h : Hy) (ms : List Zx) : makeP h ms = [I (vG h ms).k, I (vG h ms).z.e, I (vG h ms).z.n, .sl 5 (zns (vG h ms).im.ns), .sl 1 (ints (vG h ms).im.ss), I (vG h ms).im.nx, I (vG h ms).im.c.ep, I (vG h ms).im.c.n, I (vG h ms).im.c.kind, .sl 4 (mbs (vG h ms).im.c.ms), I (vG h ms).im.ae, I (vG h ms).im.an, .sl 8 (yY (vG h ms).l)] := by
 unfold makeP vG
 generalize lastIn (mks h) ms (mks h).length = q
 cases q <;> rfl
def planM (n : Pn) : Mg := { mgK 5 with pk := n.k, pz := n.z, pim := n.im, pl := n.l }
def planH (p : Lq) (id : Int) : Hy := if id ∈ zC p then p.h else uptoH p.h p.d
def vB (s : Sq) (x : Lr) : Sq := (s.send x.id (planM (vG (planH s.p x.id) x.ms))).lay { x with ph := 3 }
theorem planS_ok {n b : Nat} {s : Sq} (h : OkS n b s) {x : Lr} (hx : x.ms.length <= 1000000) : OkS (n + 1) (b + 1) (vB s x) := OkS.lay (OkS.send h _ _) hx
theorem planH_ok {p : Lq} (hk : OkH p.h) (id : Int) : OkH (planH p id) := by
 unfold planH
 split
 ·exact hk
 ·unfold uptoH
  split
  ·exact hk.take _
  ·exact hk
def stayQ (p : Lq) : Bool := decide ((yZ p.h p.d.e p.d.n).length = 1 /\ ¬ p.id ∈ zC p)
def stayS (s : Sq) : Sq := if stayQ s.p = true then { s with g := true } else s
theorem fold_snoc {α : Type} (f : Sq -> α -> Sq) (s : Sq) {l : List α} {k : Nat} (h : k < l.length) : (l.take (k + 1)).foldl f s = f ((l.take k).foldl f s) l[k] := by
 rw [List.take_succ_eq_append_getElem h, List.foldl_append]; rfl
theorem fold_ok {f : Sq -> Lr -> Sq} {i j : Nat} : ∀ (l : List Lr) {n b : Nat} {s : Sq}, (∀ {n b : Nat} {s : Sq} {x : Lr}, OkS n b s -> x ∈ l -> OkS (n + i) (b + j) (f s x)) -> OkS n b s -> OkS (n + i * l.length) (b + j * l.length) (l.foldl f s)
 | [], n, b, s, _, h => by simpa using h
 | x :: l, n, b, s, hf, h => by
  have := fold_ok l (fun h hx => hf h (List.mem_cons_of_mem _ hx)) (hf h (List.mem_cons_self ..))
  rw [List.foldl_cons]
  refine this.mono ?_ ?_ <;> (rw [List.length_cons, Nat.mul_add, Nat.mul_one]; omega)
theorem vQ {f : Sq -> Lr -> Sq} {i j : Nat} {l : List Lr} {n b : Nat} {s : Sq} (hf : ∀ {n b : Nat} {s : Sq} {x : Lr}, OkS n b s -> x ∈ l -> OkS (n + i) (b + j) (f s x)) (h : OkS n b s) (k : Nat) (hk : k <= l.length) : OkS (n + i * k) (b + j * k) ((l.take k).foldl f s) := by
 have := fold_ok (f := f) (i := i) (j := j) (l.take k) (fun h hx => hf h (List.mem_of_mem_take hx)) h
 rwa [List.length_take, Nat.min_eq_left hk] at this
def xB (z : Zx) (s : Sq) (x : Lr) : Sq := if x.ph = 4 then s.send x.id { mgK 7 with z := z } else s
def xO (s : Sq) (x : Lr) : Sq := if x.ph = 2 then vB s x else s
def xX (v : List Int) (s : Sq) (x : Lr) : Sq := if x.ph = 2 /\ x.id ∈ v then vB s x else s
def xW (s : Sq) (x : Lr) : Sq := s.send x.id (mgK 3)
theorem eachReady_ok {z : Zx} {n b : Nat} {s : Sq} {x : Lr} (h : OkS n b s) : OkS (n + 0) (b + 1) (xB z s x) := by
 unfold xB
 split
 ·exact h.send _ _
 ·exact h.mono (by omega) (by omega)
theorem eachPlan_ok {n b : Nat} {s : Sq} {x : Lr} (h : OkS n b s) (hx : x.ms.length <= 1000000) : OkS (n + 1) (b + 1) (xO s x) := by
 unfold xO
 split
 ·exact planS_ok h hx
 ·exact h.mono (by omega) (by omega)
theorem eachPlanV_ok {v : List Int} {n b : Nat} {s : Sq} {x : Lr} (h : OkS n b s) (hx : x.ms.length <= 1000000) : OkS (n + 1) (b + 1) (xX v s x) := by
 unfold xX
 split
 ·exact planS_ok h hx
 ·exact h.mono (by omega) (by omega)
theorem eachEpoch_ok {n b : Nat} {s : Sq} {x : Lr} (h : OkS n b s) : OkS (n + 0) (b + 1) (xW s x) := h.send _ _
theorem wZ {α : Type} {f : Sq -> α -> Sq} (hf : ∀ s x, (f s x).p = s.p) : ∀ (l : List α) (s : Sq), (l.foldl f s).p = s.p
 | [], _ => rfl
 | x :: l, s => by rw [List.foldl_cons, wZ hf l, hf]
theorem wE (z : Zx) (s : Sq) (x : Lr) : (xB z s x).p = s.p := by unfold xB; split <;> rfl
theorem eachEpoch_p (s : Sq) (x : Lr) : (xW s x).p = s.p := rfl
def estS (s : Sq) : Sq :=
 if yK s.p (vK s.p.id 4 (yJ s.p.h).e (yJ s.p.h).n s.p.ls) = true then
  (fun s1 : Sq => stayS (s1.p.ls.foldl xO (s1.p.ls.foldl (xB (yJ s.p.h)) s1))) { s with p := { s.p with ph := 3, wt := 0, d := yJ s.p.h } }
 else s
def vU (s : Sq) : Sq :=
 if ¬ s.p.ep = 0 /\ yK s.p (vK s.p.id 2 0 0 s.p.ls) = true then
  (fun s1 : Sq => estS (s1.p.ls.foldl (xX (zC s1.p)) s1)) { s with p := { s.p with ph := 2, wt := 0, cu := s.p.ep } }
 else s
def mostQ (p : Lq) : Int := p.ls.foldl (fun a x => if a < x.ac then x.ac else a) p.ac
def choS (s : Sq) : Sq :=
 if yK s.p (vK s.p.id 1 0 0 s.p.ls) = true then
  (if freshE (mostQ s.p) s.p.id = 0 then
   (fun s1 : Sq => vU (s1.p.ls.foldl xW s1)) { s with p := { s.p with ep := wM (mostQ s.p) s.p.id, ac := wM (mostQ s.p) s.p.id } }
  else { s with g := true })
 else s
def yI (p : Lq) (m : Mg) : Lr := { (if (xS p.ls m.fr 1).2 = true then (xS p.ls m.fr 1).1 else { lrZ with id := m.fr, ph := 1 }) with ac := m.ep, q := 0 }
def infoS (s : Sq) (m : Mg) : Sq :=
 if ¬ s.p.ep = 0 /\ s.p.ep < m.ep then { s with g := true }
 else if ¬ s.p.ep = 0 then (s.lay (yI s.p m)).send (yI s.p m).id (mgK 3) else choS (s.lay (yI s.p m))
def aheadQ (p : Lq) (m : Mg) : Bool := if ¬ m.cu = p.cu then decide (p.cu < m.cu) else decide (0 < xF (m.ms.getD (m.ms.length - 1) ⟨0, 0⟩).e (m.ms.getD (m.ms.length - 1) ⟨0, 0⟩).n (yJ p.h).e (yJ p.h).n)
def ackD (s : Sq) (m : Mg) : Sq := if 0 < xF m.z.e m.z.n s.p.d.e s.p.d.n /\ m.z ∈ mks s.p.h then { s with p := { s.p with d := m.z } } else s
def ackX (p : Lq) (m : Mg) : Lr := { (xS p.ls m.fr 1).1 with ph := 2, cu := m.cu, ms := m.ms, q := 0 }
def ackEpS (s : Sq) (m : Mg) : Sq :=
 if (xS s.p.ls m.fr 1).2 = false \/ m.ms.length = 0 then s
 else if s.p.ph = 1 then
  (if (xS s.p.ls m.fr 1).1.id ∈ zC (ackD s m).p /\ aheadQ (ackD s m).p m = true then { ackD s m with g := true }
  else vU ((ackD s m).lay (ackX s.p m)))
 else if s.p.ph = 3 \/ (s.p.ph = 2 /\ (ackX s.p m).id ∈ zC (s.lay (ackX s.p m)).p) then vB (s.lay (ackX s.p m)) (ackX s.p m)
 else s.lay (ackX s.p m)
def Sq.each (s : Sq) (to kd : Int) (l : List Tx) : Sq := { s with o := s.o ++ eachQ s.p to kd l }
def vM (v : List Int) (z : Zx) (l : List Tx) (s : Sq) (x : Lr) : Sq :=
 if x.ph = 4 /\ x.id ∈ v then s.send x.id { mgK 10 with z := z } else if 3 <= x.ph /\ ¬ x.id ∈ v then s.each x.id 11 l else s
theorem eachCom_ok {v : List Int} {z : Zx} {l : List Tx} (hl : l.length <= 1000) {n b : Nat} {s : Sq} {x : Lr} (h : OkS n b s) : OkS (n + 0) (b + 1000) (vM v z l s x) := by
 unfold vM
 split
 ·exact (h.send _ _).mono (by omega) (by omega)
 ·split
  ·exact ⟨h.hk, h.ll, by have := h.lo; simp [Sq.each, eachQ]; omega, h.lm⟩
  ·exact h.mono (by omega) (by omega)
def comZ (p : Lq) : Zx := ⟨(comF p.h p.id p.ls p.h.lg 0 p.d.e p.d.n).1, (comF p.h p.id p.ls p.h.lg 0 p.d.e p.d.n).2⟩
def comS (s : Sq) : Sq :=
 if comZ s.p = s.p.d then s
 else (fun s1 : Sq => stayS { s1 with p := { s1.p with d := comZ s.p } }) (s.p.ls.foldl (vM (zC s.p) (comZ s.p) (comd s.p.d.e s.p.d.n (comZ s.p).e (comZ s.p).n s.p.h.lg)) s)
def syncX (p : Lq) (m : Mg) : Lr := { (xS p.ls m.fr 3).1 with ph := 4, ae := m.z.e, an := m.z.n, q := 0 }
def syncS (s : Sq) (m : Mg) : Sq :=
 if (xS s.p.ls m.fr 3).2 = false then s
 else if s.p.ph = 2 then estS (s.lay (syncX s.p m))
 else if s.p.ph = 3 then comS ((s.lay (syncX s.p m)).send (syncX s.p m).id { mgK 7 with z := s.p.d })
 else s.lay (syncX s.p m)
def ackdX (p : Lq) (m : Mg) : Lr := { (xS p.ls m.fr 4).1 with ae := m.z.e, an := m.z.n, q := 0 }
def ackdS (s : Sq) (m : Mg) : Sq :=
 if (xS s.p.ls m.fr 4).2 = false \/ xF m.z.e m.z.n (xS s.p.ls m.fr 4).1.ae (xS s.p.ls m.fr 4).1.an <= 0 then s
 else if s.p.ph = 3 then comS (s.lay (ackdX s.p m)) else s.lay (ackdX s.p m)
def vH (l : List Lr) (id : Int) : List Lr := l.map fun x => if x.id = id then { x with q := 0 } else x
def pongS (s : Sq) (m : Mg) : Sq := { s with p := { s.p with ls := vH s.p.ls m.fr } }
def doS21 (s : Sq) (m : Mg) : Sq :=
 if m.kd = 2 then infoS s m else if m.kd = 4 then ackEpS s m else if m.kd = 6 then syncS s m else if m.kd = 9 then ackdS s m else if m.kd = 13 then pongS s m else s
def hearS (p : Lq) (m : Mg) : Sq := if p.mo = 2 /\ concQ { p with ls := yW p.ls } m then doS21 ⟨{ p with ls := yW p.ls }, false, []⟩ m else ⟨{ p with ls := yW p.ls }, false, []⟩
end Go.Proofs.YtffflakmofbilaaGreat
namespace Go.Proofs.YtffflakmofbilaaGreat
set_option linter.unusedSimpArgs false
set_option linter.unusedVariables false
open Go Go.Av
attribute [local irreducible] Go.Av.yG Go.Av.zQ Go.Av.yD Go.Av.zI Go.Av.yA Go.Av.yX Go.Av.Con
set_option maxHeartbeats 1000000 in
theorem marks16_con (h : Hy) (hl : h.lg.length <= 1000) : zF Tryz.prog 46 [.p (.agg h.cells)] (.p (.sl 2 (zxs (mks h)))) := by
 have hz0 : (mks h).take 1 = [⟨h.im.ae, h.im.an⟩] := rfl
 have hmt := mks_take h
 have hml := mks_len h
 generalize mks h = M at *
 unfold Hy.cells at *
 refine zL Tryz.tab Tryz.mixed Tryz.func46 rfl rfl Tryz.ntmps46 (by simp) (by simp) fun Q hr hn => ?_
 repeat' first | (refine hK _ ?_; clear hK) | (refine zU fun K hK => ?_) | (refine zS ?_; simp only [uU, uT, strip]) | (refine wOs fun K hK => ?_; simp) | (first | refine zV ?_) | (refine wOn ?_; try simp only [zZ])
 refine yU (fun N st => ∃ k, k + N = h.lg.length /\ st.s 11 = .p (.sl 8 (yY h.lg)) /\ st.s 12 = .p (I h.lg.length) /\ st.s 13 = .p (I k) /\ (k = 0 /\ st.s 3 = .full 2 (zxs (M.take 1)) \/ 0 < k /\ st.s 3 = .row 21 /\ st.b 21 = some (.row 25 2 (zxs (M.take (k + 1)))))) h.lg.length ⟨0, by simp [hz0, zxs]⟩ fun K N st hL ⟨k, hk, g11, g12, g13, hc⟩ => ?_
 by_cases hlt : k < h.lg.length
 ·have hw := yT k _ hlt (by omega)
  have he := wR hlt
  have hs := zxs_app (M.take (k + 1)) [⟨h.lg[k].e, h.lg[k].n⟩]
  rw [<- hmt k hlt] at hs
  have hs' : zxs (M.take (k + 1)) ++ [[I h.lg[k].e, I h.lg[k].n]] = zxs (M.take (k + 1 + 1)) := hs.symm
  have hw1 : IntKind.i64.wrap 1 = 1 := by rw [zE] <;> omega
  have hln : (zxs (M.take (k + 1))).length <= 1001 := by rw [wV, List.length_take]; omega
  rcases hc with ⟨rfl, g3⟩ | ⟨hk0, g3, b21⟩
  ·repeat' first | (refine Or.inl ?_) | (refine And.intro (by (try simp); omega) ?_) | (refine hK _ ?_; clear hK) | (refine zU fun K hK => ?_) | (refine zS ?_; simp only [uU, uT, strip]) | ((first | refine wOs fun K hK => ?_ | refine zX ?_); simp [g11, g12, g13, g3, hlt]) | (first | refine zV ?_) | (refine zR ?_; try simp) | (refine wOn ?_; try simp only [zZ])
   refine hL _ (N - 1) (by omega) ⟨1, by omega, ?_⟩
   simp only [Nat.zero_add] at hs'
   simp [g11, g12, hw1, hs']
  ·repeat' first | (refine And.intro (by (try simp); omega) ?_) | (refine hK _ ?_; clear hK) | (refine zU fun K hK => ?_) | (refine zS ?_; simp only [uU, uT, strip]) | ((first | refine wOs fun K hK => ?_ | refine zX ?_); simp [g11, g12, g13, g3, b21, hlt, hw]) | (first | refine zV ?_) | (refine zR ?_; try simp) | (refine wOn ?_; try simp only [zZ])
   refine hL _ (N - 1) (by omega) ⟨k + 1, by omega, ?_⟩
   simp [g11, g12, hs']
 ·have hk0 : k = h.lg.length := by omega
  rcases hc with ⟨h0, g3⟩ | ⟨hk0, g3, b21⟩
  ·rw [List.take_of_length_le (by omega)] at g3
   repeat' first | (refine hK _ ?_; clear hK) | (clear hK; refine hK _ ?_; clear hK) | (refine zU fun K hK => ?_) | (refine zS ?_; simp only [uU, uT, strip]) | ((first | refine wOs fun K hK => ?_ | refine zX ?_); simp [g12, g13, g3, hlt]) | ((first | refine zM ?_ | refine zH ?_); try simp) | (refine wOn ?_; try simp only [zZ])
   all_goals apply hr
   all_goals simp [Tryz.f46]
  ·rw [List.take_of_length_le (by omega)] at b21
   repeat' first | (refine hK _ ?_; clear hK) | (clear hK; refine hK _ ?_; clear hK) | (refine zU fun K hK => ?_) | (refine zS ?_; simp only [uU, uT, strip]) | ((first | refine wOs fun K hK => ?_ | refine zX ?_); simp [g12, g13, g3, hlt]) | ((first | refine zM ?_ | refine zH ?_); try simp) | (refine wOn ?_; try simp only [zZ])
   all_goals apply hr
   all_goals simp [Tryz.f46, b21]
def risesB : List Zx -> Bool
 | [] => true
 | [_] => true
 | a :: b :: l => decide (xF a.e a.n b.e b.n < 0) && risesB (b :: l)
set_option maxHeartbeats 1000000 in
theorem check16_con (h : Hy) (hl : h.lg.length <= 1000) : zF Tryz.prog 30 [.p (.agg h.cells)] (.p (B (risesB (mks h)))) := by
 have c1 := marks16_con h hl
 have hml := mks_len h
 generalize mks h = M at *
 unfold Hy.cells at *
 refine zL Tryz.tab Tryz.mixed Tryz.func30 rfl rfl Tryz.ntmps30 (by simp) (by simp) fun Q hr hn => ?_
 repeat' first | (refine zQ.pure (c1) rfl ?_) | (refine hK _ ?_; clear hK) | (refine zU fun K hK => ?_) | (refine zS ?_; simp only [uU, uT, strip]) | ((first | refine wOs fun K hK => ?_ | refine zY ?_); simp) | (first | refine zV ?_) | (refine wOn ?_; try simp only [zZ])
 refine yU (fun N st => ∃ k, k + 1 + N = M.length /\ st.s 3 = .p (.sl 2 (zxs M)) /\ st.s 4 = .p (I ((k + 1 : Nat) : Int)) /\ risesB (M.drop k) = risesB M) (M.length - 1) ⟨0, by omega, by simp⟩ fun K N st hL ⟨k, hk, g3, g4, hi⟩ => ?_
 by_cases hlt : k + 1 < M.length
 ·have hlt' : ((k + 1 : Nat) : Int) < M.length := by omega
  have hk0 : k < M.length := by omega
  have hw : IntKind.i64.wrap (((k + 1 : Nat) : Int) + 1) = ((k + 1 + 1 : Nat) : Int) := by rw [zE] <;> omega
  have hw2 : IntKind.i64.wrap (((k + 1 : Nat) : Int) - 1) = (k : Int) := by rw [zE] <;> omega
  rw [List.drop_eq_getElem_cons hk0, List.drop_eq_getElem_cons hlt, risesB, <- List.drop_eq_getElem_cons hlt] at hi
  have cc := cmp02_con M[k].e M[k].n M[k + 1].e M[k + 1].n
  generalize xF M[k].e M[k].n M[k + 1].e M[k + 1].n = q at *
  generalize hj : k + 1 = j at *
  by_cases o : q < 0
  ·rw [decide_eq_true o, Bool.true_and] at hi
   have o' : ¬ (0 <= q) := by omega
   repeat' first | (refine zI.pure (cc) rfl ?_) | (refine hK _ ?_; clear hK) | (refine zU fun K hK => ?_) | ((first | refine zS ?_ | refine zA rfl (by kernel_rfl) ?_); simp only [uU, uT, strip]) | ((first | refine wOs fun K hK => ?_ | refine wQs fun K hK => ?_ | refine zK ?_ | refine zX ?_); simp [g3, g4, hlt, hlt', hk0, hw, hw2, o']) | (first | refine zV ?_) | (refine zR ?_; try simp) | ((first | refine wOn ?_ | refine wQn ?_); try simp only [zZ])
   refine hL _ (N - 1) (by omega) ⟨j, by omega, ?_⟩
   simp [g3, hi]
  ·rw [decide_eq_false o, Bool.false_and] at hi
   have o' : 0 <= q := by omega
   rw [<- hi] at hr
   repeat' first | (refine zI.pure (cc) rfl ?_) | (refine hK _ ?_; clear hK) | (refine zU fun K hK => ?_) | ((first | refine zS ?_ | refine zA rfl (by kernel_rfl) ?_); simp only [uU, uT, strip]) | ((first | refine wOs fun K hK => ?_ | refine wQs fun K hK => ?_ | refine zK ?_ | refine zX ?_); simp [g3, g4, hlt, hlt', hk0, hw2, o']) | (first | refine zV ?_) | ((first | refine zM ?_ | refine zR ?_); try simp) | ((first | refine wOn ?_ | refine wQn ?_); try simp only [zZ])
   all_goals apply hr
   all_goals simp [Tryz.f30]
 ·have hlt' : ¬ ((k + 1 : Nat) : Int) < M.length := by omega
  have hd : risesB (M.drop k) = true := by
   have : (M.drop k).length = 1 := by rw [List.length_drop]; omega
   match hm : M.drop k, this with
   | [x], _ => rfl
  rw [hd] at hi
  rw [<- hi] at hr
  generalize k + 1 = j at *
  repeat' first | (refine hK _ ?_; clear hK) | (clear hK; refine hK _ ?_; clear hK) | (refine zU fun K hK => ?_) | (refine zS ?_; simp only [uU, uT, strip]) | ((first | refine wOs fun K hK => ?_ | refine zX ?_); simp [g3, g4, hlt']) | ((first | refine zM ?_ | refine zH ?_); try simp) | (refine wOn ?_; try simp only [zZ])
  all_goals apply hr
  all_goals simp [Tryz.f30]
end Go.Proofs.YtffflakmofbilaaGreat
