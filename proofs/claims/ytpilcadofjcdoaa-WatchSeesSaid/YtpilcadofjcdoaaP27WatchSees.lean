/- Texts that the proof needs: XK NG NH XN XO XP XD PIW WM1. -/
import Derived.Test.YtpilcadofjcdoaaP26WatchSees
import Derived.Test.YtpilcadofjcdoaaP25WatchSees
import Derived.Test.YtpilcadofjcdoaaP21WatchSees
import Derived.Lib.ItoaNum
namespace Go.Proofs.Ytpilcadofjcdoaa
set_option linter.unusedSimpArgs false
set_option linter.unusedVariables false
open Go Go.Av
attribute [local irreducible] Go.Av.yQ Go.Av.zZ Go.Av.yG Go.Av.zT Go.Av.yH Go.Av.zY Go.Av.Con
def txns (l : List Tx) : List (List PV) := l.map Tx.cells
@[simp] theorem txns_len (l : List Tx) : (txns l).length = l.length := by simp [txns]
@[simp] theorem txns_getElem (l : List Tx) (k : Nat) (h : k < (txns l).length) : (txns l)[k] = [I (l[k]'(by simpa using h)).e, I (l[k]'(by simpa using h)).n, I (l[k]'(by simpa using h)).s, I (l[k]'(by simpa using h)).x, I (l[k]'(by simpa using h)).r, I (l[k]'(by simpa using h)).b, SB (l[k]'(by simpa using h)).m, .sl 11 (pts (l[k]'(by simpa using h)).ps)] := by simp [txns, Tx.cells]
end Go.Proofs.Ytpilcadofjcdoaa
namespace Go.Proofs.Ytpilcadofjcdoaa
set_option linter.unusedSimpArgs false
set_option linter.unusedVariables false
open Go Go.Av
theorem rst_sub (l : List Zn) (q : List UInt8) : (rst l q).Sublist l := by
 cases l with
 | nil=>exact .slnil
 | cons x r =>
  rw [rst];split
  ·exact List.sublist_cons_self x r
  ·exact List.Sublist.refl _
end Go.Proofs.Ytpilcadofjcdoaa
namespace Go.Proofs.Ytpilcadofjcdoaa
set_option linter.unusedSimpArgs false
set_option linter.unusedVariables false
open Go Go.Av
attribute [local irreducible] Go.Av.yQ Go.Av.zZ Go.Av.yG Go.Av.zT Go.Av.yH Go.Av.zY Go.Av.Con
theorem rst_len (l : List Zn) (q : List UInt8) : (rst l q).length <= l.length := (rst_sub l q).length_le
theorem putZ_len (l : List Zn) (z : Zn) : (putZ l z).length <= l.length + 1 := by
 have:=rst_len (l.drop (att l z.p)) z.p
 have h2:=att_le l z.p
 unfold putZ
 simp at this ⊢
 omega
theorem goneZ_len (l : List Zn) (p : List UInt8) : (gone l p).length <= l.length := List.length_filter_le _ _
theorem ints_zis (l : List Int) : ints l = zis l := rfl
def xL (s : Sv) (p : Pt) : Sv :=
 if p.k = 1 then { s with ns:=putZ s.ns p.z } else if p.k = 2 then { s with ns:=gone s.ns p.z.p }
 else if p.k = 3 then { s with ss:=opnL s.ss p.s,nx:=opnN s.nx p.s } else if p.k = 4 then { s with ss:=but s.ss p.s }
 else if p.k = 5 then { s with c:=p.c } else s
def runP (s : Sv) (l : List Pt) : Sv := l.foldl xL s
theorem runP_snoc (s : Sv) {l : List Pt} {k : Nat} (h : k < l.length) : runP s (l.take (k + 1)) = xL (runP s (l.take k)) l[k] := by
 rw [List.take_succ_eq_append_getElem h,runP,List.foldl_append];rfl
def lateS (s : Sv) (e n : Int) : Sv := { s with ae := (lastZ [⟨s.ae, s.an⟩, ⟨e, n⟩]).e, an := (lastZ [⟨s.ae, s.an⟩, ⟨e, n⟩]).n }
def doS (s : Sv) (t : Tx) : Sv := lateS (runP s t.ps) t.e t.n
theorem insI_len (l : List Int) (s : Int) : (insI l s).length <= l.length + 1 := by
 have h:=but_len l s
 unfold insI
 simp
 omega
theorem opnL_len (l : List Int) (s : Int) : (opnL l s).length <= l.length + 1 := by
 unfold opnL
 split
 ·exact insI_len l s
 ·omega
theorem stepP_len (s : Sv) (p : Pt) : (xL s p).ns.length <= s.ns.length + 1 /\ (xL s p).ss.length <= s.ss.length + 1 := by
 have h1:=putZ_len s.ns p.z
 have h2:=goneZ_len s.ns p.z.p
 have h3:=opnL_len s.ss p.s
 have h4:=but_len s.ss p.s
 unfold xL
 split
 ·exact ⟨h1,by simp⟩
 split
 ·exact ⟨by show (gone s.ns p.z.p).length <= _;omega,by simp⟩
 split
 ·exact ⟨by simp,h3⟩
 split
 ·exact ⟨by simp,by show (but s.ss p.s).length <= _;omega⟩
 split <;> exact ⟨by simp,by simp⟩
theorem runP_len : ∀ (l : List Pt) (s : Sv), (runP s l).ns.length <= s.ns.length + l.length /\ (runP s l).ss.length <= s.ss.length + l.length
 | [],s=>⟨by simp [runP],by simp [runP]⟩
 | p :: l, s => by
  have h:=stepP_len s p
  have ih:=runP_len l (xL s p)
  have e : runP s (p :: l) = runP (xL s p) l:=rfl
  rw [e]
  simp only [List.length_cons]
  omega
theorem runP_take (s : Sv) (l : List Pt) (k : Nat) : (runP s (l.take k)).ns.length <= s.ns.length + l.length /\ (runP s (l.take k)).ss.length <= s.ss.length + l.length := by
 have h:=runP_len (l.take k) s
 have : (l.take k).length <= l.length:=by simp;omega
 omega
def okC (c : Cf) : Prop := c.ms.length <= 4398046510976
theorem stepP_c (s : Sv) (p : Pt) (hs : okC s.c) (hp : okC p.c) : okC (xL s p).c := by
 unfold xL
 split
 ·exact hs
 split
 ·exact hs
 split
 ·exact hs
 split
 ·exact hs
 split
 ·exact hp
 ·exact hs
theorem runP_c : ∀ (l : List Pt) (s : Sv), okC s.c -> (∀ p ∈ l, okC p.c) -> okC (runP s l).c
 | [],s,hs,_=>hs
 | p :: l,s,hs,hp=>runP_c l (xL s p) (stepP_c s p hs (hp p (by simp))) fun q hq=>hp q (by simp [hq])
structure Fits (s : Sv) (n : Nat) : Prop where
 ns : s.ns.length + n <= 1000000
 ss : s.ss.length + n <= 1000000
 c : okC s.c
def okT (t : Tx) : Prop := ∀ p ∈ t.ps, okC p.c
theorem doS_fits {s : Sv} {t : Tx} {n : Nat} (h : Fits s (t.ps.length + n)) (ht : okT t) : Fits (doS s t) n := by
 have h1:=runP_len t.ps s
 have h2:=runP_c t.ps s h.c ht
 refine ⟨?_,?_,h2⟩
 ·have := h.ns
  show (runP s t.ps).ns.length + n <= _
  omega
 ·have := h.ss
  show (runP s t.ps).ss.length + n <= _
  omega
theorem Fits.le {s : Sv} {n m : Nat} (h : Fits s n) (hm : m <= n) : Fits s m := ⟨by have := h.ns; omega, by have := h.ss; omega, h.c⟩
theorem last2 (a b : Zx) : lastZ [a, b] = if 0 < zcmp b.e b.n a.e a.n then b else a := rfl
set_option maxHeartbeats 8000000 in
theorem apply08_con (s : Sv) (t : Tx) (h : Fits s t.ps.length) (ht : okT t) : zF Try.prog 6 [.p (.agg s.cells), .p (.agg t.cells)] (.p (.agg (doS s t).cells)) := by
 have h1:=h.ns
 have h2:=h.ss
 have c1:=copied08_con s.c.ep s.c.n s.c.kind (mbs s.c.ms) (by rw [mbs_len];exact h.c)
 unfold Sv.cells Tx.cells
 simp only [ints_zis]
 refine zG Try.tab Try.mixed Try.func6 rfl rfl Try.ntmps6 (by simp) (by simp) fun Q hr hn=>?_
 repeat' first|(refine And.intro (by (try simp);omega) ?_)|(refine Or.inr ?_)|(refine hK _ ?_;clear hK)|(refine hK _ _ ?_;clear hK)|(clear hK;refine hK _ ?_;clear hK)|(clear hK;clear hK;refine hK _ ?_;clear hK)|(clear hK;clear hK;clear hK;refine hK _ ?_;clear hK)|(clear hK;clear hK;clear hK;clear hK;refine hK _ ?_;clear hK)|(refine zJ fun K hK=>?_)|((first | refine zH ?_ | refine zN rfl (by kernel_rfl) ?_ | refine zM ?_ | refine zK (by kernel_rfl) ?_);simp only [wJ,wI,strip])|((first | refine wIs fun K hK=>?_ | refine wOs fun K hK=>?_ | refine wQs fun K hK=>?_ | refine zU ?_ | refine zV ?_ | refine zW ?_ | refine zL ?_);simp)|(refine wIn ?_;refine And.intro (by kernel_rfl) ?_;try simp only [zX])|(first | refine zQ ?_ | refine zS ?_)|((first | refine zI ?_ | refine zO ?_ | refine zP ?_);try simp)|((first | refine zR ?_ | refine wOn ?_ | refine wQn ?_);try simp only [zX])|(refine zZ.pure (c1) rfl ?_)|(refine zZ.lent (c1) rfl ?_)|(refine zT.pure (c1) rfl ?_)|(refine zT.lent (c1) rfl ?_)|(refine zZ.own (c1) ?_)|(refine zY.pure (c1) rfl ?_)|(refine zY.lent (c1) rfl ?_)|(refine zY.own (c1) ?_)
 refine xS (fun N st=>∃ k,k + N = t.ps.length /\ st.s 4 = .ptr 4 0 /\ st.s 3 = .ptr 3 0 /\ st.s 5 = .ptr 5 0 /\ st.s 25 = .p (.sl 11 (pts t.ps)) /\ st.s 26 = .p (I t.ps.length) /\ st.s 27 = .p (I k) /\ st.b 4 = some (.box 30 [.nil 5,.nil 1,.p (I 0),.p (I 0),.p (I 0),.p (I 0),.nil 4,.p (I 0),.p (I 0)]) /\ st.b 3 = some (.box 44 [.p (I t.e),.p (I t.n),.p (I t.s),.p (I t.x),.p (I t.r),.p (I t.b),.p (SB t.m),.p (.sl 11 (pts t.ps))]) /\ st.b 5 = some (.box 30 [.p (.sl 5 (zns (runP s (t.ps.take k)).ns)),.p (.sl 1 (zis (runP s (t.ps.take k)).ss)),.p (I (runP s (t.ps.take k)).nx),.p (I (runP s (t.ps.take k)).c.ep),.p (I (runP s (t.ps.take k)).c.n),.p (I (runP s (t.ps.take k)).c.kind),.p (.sl 4 (mbs (runP s (t.ps.take k)).c.ms)),.p (I (runP s (t.ps.take k)).ae),.p (I (runP s (t.ps.take k)).an)])) t.ps.length ⟨0,by simp [runP]⟩ fun K N st hL ⟨k,hk,g4,g3,g5,g25,g26,g27,b4,b3,b5⟩=>?_
 have hlen:=runP_take s t.ps k
 by_cases hlt : k < t.ps.length
 ·have hw := wrapX k _ hlt (by omega)
  have he:=pts_get hlt
  have hs:=runP_snoc s hlt
  have hpc:=ht t.ps[k] (List.getElem_mem hlt)
  generalize runP s (t.ps.take k) = q at hs hlen b5
  unfold okC at hpc
  by_cases k1 : t.ps[k].k = 1
  ·have c := put07_con q.ns t.ps[k].z (by omega)
   unfold Zn.c at c
   have hs' : xL q t.ps[k] = { q with ns:=putZ q.ns t.ps[k].z }:=by unfold xL;rw [if_pos k1]
   generalize putZ q.ns t.ps[k].z = n1 at c hs'
   repeat' first|(refine hK _ ?_;clear hK)|(refine hK _ _ ?_;clear hK)|(clear hK;refine hK _ ?_;clear hK)|(clear hK;clear hK;refine hK _ ?_;clear hK)|(clear hK;clear hK;clear hK;refine hK _ ?_;clear hK)|(clear hK;clear hK;clear hK;clear hK;refine hK _ ?_;clear hK)|(refine zJ fun K hK=>?_)|((first | refine zH ?_ | refine zN rfl (by kernel_rfl) ?_ | refine zM ?_ | refine zK (by kernel_rfl) ?_);simp only [wJ,wI,strip])|((first | refine wIs fun K hK=>?_ | refine wOs fun K hK=>?_ | refine wQs fun K hK=>?_ | refine zU ?_ | refine zV ?_ | refine zW ?_ | refine zL ?_);simp [g4,g3,g5,g25,g26,g27,b4,b3,b5,hlt,hw,he,k1])|(refine wIn ?_;refine And.intro (by kernel_rfl) ?_;try simp only [zX])|(first | refine zQ ?_ | refine zS ?_)|((first | refine zI ?_ | refine zO ?_ | refine zP ?_);try simp)|((first | refine zR ?_ | refine wOn ?_ | refine wQn ?_);try simp only [zX])|(refine zZ.pure (c) rfl ?_)|(refine zZ.lent (c) rfl ?_)|(refine zT.pure (c) rfl ?_)|(refine zT.lent (c) rfl ?_)|(refine zZ.own (c) ?_)|(refine zY.pure (c) rfl ?_)|(refine zY.lent (c) rfl ?_)|(refine zY.own (c) ?_)
   refine hL _ (N - 1) (by omega) ⟨k + 1,by omega,?_⟩
   simp [g4,g3,g5,g25,g26,g27,b4,b3,b5,hw,hs,hs']
  by_cases k2 : t.ps[k].k = 2
  ·have c := gone07_con q.ns t.ps[k].z.p (by omega)
   have hs' : xL q t.ps[k] = { q with ns:=gone q.ns t.ps[k].z.p }:=by unfold xL;rw [if_neg k1,if_pos k2]
   generalize gone q.ns t.ps[k].z.p = n1 at c hs'
   repeat' first|(refine hK _ ?_;clear hK)|(refine hK _ _ ?_;clear hK)|(clear hK;refine hK _ ?_;clear hK)|(clear hK;clear hK;refine hK _ ?_;clear hK)|(clear hK;clear hK;clear hK;refine hK _ ?_;clear hK)|(clear hK;clear hK;clear hK;clear hK;refine hK _ ?_;clear hK)|(refine zJ fun K hK=>?_)|((first | refine zH ?_ | refine zN rfl (by kernel_rfl) ?_ | refine zM ?_ | refine zK (by kernel_rfl) ?_);simp only [wJ,wI,strip])|((first | refine wIs fun K hK=>?_ | refine wOs fun K hK=>?_ | refine wQs fun K hK=>?_ | refine zU ?_ | refine zV ?_ | refine zW ?_ | refine zL ?_);simp [g4,g3,g5,g25,g26,g27,b4,b3,b5,hlt,hw,he,k1,k2])|(refine wIn ?_;refine And.intro (by kernel_rfl) ?_;try simp only [zX])|(first | refine zQ ?_ | refine zS ?_)|((first | refine zI ?_ | refine zO ?_ | refine zP ?_);try simp)|((first | refine zR ?_ | refine wOn ?_ | refine wQn ?_);try simp only [zX])|(refine zZ.pure (c) rfl ?_)|(refine zZ.lent (c) rfl ?_)|(refine zT.pure (c) rfl ?_)|(refine zT.lent (c) rfl ?_)|(refine zZ.own (c) ?_)|(refine zY.pure (c) rfl ?_)|(refine zY.lent (c) rfl ?_)|(refine zY.own (c) ?_)
   refine hL _ (N - 1) (by omega) ⟨k + 1,by omega,?_⟩
   simp [g4,g3,g5,g25,g26,g27,b4,b3,b5,hw,hs,hs']
  by_cases k3 : t.ps[k].k = 3
  ·have hs' : xL q t.ps[k] = { q with ss := opnL q.ss t.ps[k].s, nx := opnN q.nx t.ps[k].s } := by unfold xL; rw [if_neg k1, if_neg k2, if_pos k3]
   by_cases o1 : 1 <= t.ps[k].s
   ·by_cases o2 : t.ps[k].s <= 1099511627776
    ·have ho : okS t.ps[k].s = true := decide_eq_true ⟨o1, o2⟩
     have hw1 : IntKind.i64.wrap (t.ps[k].s + 1) = t.ps[k].s + 1:=by rw [yW] <;> omega
     have c:=with08_con q.ss t.ps[k].s (by omega)
     rw [wth_ins] at c
     have e1 : opnL q.ss t.ps[k].s = insI q.ss t.ps[k].s:=by unfold opnL;rw [if_pos ho]
     have e2 : opnN q.nx t.ps[k].s = max q.nx (t.ps[k].s + 1):=by unfold opnN;rw [if_pos ho]
     rw [e1,e2] at hs'
     generalize insI q.ss t.ps[k].s = n1 at c hs'
     repeat' first|(refine hK _ ?_;clear hK)|(refine hK _ _ ?_;clear hK)|(clear hK;refine hK _ ?_;clear hK)|(clear hK;clear hK;refine hK _ ?_;clear hK)|(clear hK;clear hK;clear hK;refine hK _ ?_;clear hK)|(clear hK;clear hK;clear hK;clear hK;refine hK _ ?_;clear hK)|(refine zJ fun K hK=>?_)|((first | refine zH ?_ | refine zN rfl (by kernel_rfl) ?_ | refine zM ?_ | refine zK (by kernel_rfl) ?_);simp only [wJ,wI,strip])|((first | refine wIs fun K hK=>?_ | refine wOs fun K hK=>?_ | refine wQs fun K hK=>?_ | refine zU ?_ | refine zV ?_ | refine zW ?_ | refine zL ?_);simp [g4,g3,g5,g25,g26,g27,b4,b3,b5,hlt,hw,he,k1,k2,k3,o1,o2,hw1])|(refine wIn ?_;refine And.intro (by kernel_rfl) ?_;try simp only [zX])|(first | refine zQ ?_ | refine zS ?_)|((first | refine zI ?_ | refine zO ?_ | refine zP ?_);try simp)|((first | refine zR ?_ | refine wOn ?_ | refine wQn ?_);try simp only [zX])|(refine zZ.pure (c) rfl ?_)|(refine zZ.lent (c) rfl ?_)|(refine zT.pure (c) rfl ?_)|(refine zT.lent (c) rfl ?_)|(refine zZ.own (c) ?_)|(refine zY.pure (c) rfl ?_)|(refine zY.lent (c) rfl ?_)|(refine zY.own (c) ?_)
     all_goals refine hL _ (N - 1) (by omega) ⟨k + 1,by omega,?_⟩
     all_goals simp [g4,g3,g5,g25,g26,g27,b4,b3,b5,hw,hs,hs',hw1]
     all_goals omega
    ·have ho : ¬ okS t.ps[k].s = true := by unfold okS; simp; omega
     have e1 : opnL q.ss t.ps[k].s = q.ss:=by unfold opnL;rw [if_neg ho]
     have e2 : opnN q.nx t.ps[k].s = q.nx:=by unfold opnN;rw [if_neg ho]
     rw [e1,e2] at hs'
     repeat' first|(refine hK _ ?_;clear hK)|(refine hK _ _ ?_;clear hK)|(clear hK;refine hK _ ?_;clear hK)|(clear hK;clear hK;refine hK _ ?_;clear hK)|(clear hK;clear hK;clear hK;refine hK _ ?_;clear hK)|(clear hK;clear hK;clear hK;clear hK;refine hK _ ?_;clear hK)|(refine zJ fun K hK=>?_)|((first | refine zH ?_ | refine zN rfl (by kernel_rfl) ?_ | refine zM ?_ | refine zK (by kernel_rfl) ?_);simp only [wJ,wI,strip])|((first | refine wIs fun K hK=>?_ | refine wOs fun K hK=>?_ | refine wQs fun K hK=>?_ | refine zU ?_ | refine zV ?_ | refine zW ?_ | refine zL ?_);simp [g4,g3,g5,g25,g26,g27,b4,b3,b5,hlt,hw,he,k1,k2,k3,o1,o2])|(refine wIn ?_;refine And.intro (by kernel_rfl) ?_;try simp only [zX])|(first | refine zQ ?_ | refine zS ?_)|((first | refine zI ?_ | refine zO ?_ | refine zP ?_);try simp)|((first | refine zR ?_ | refine wOn ?_ | refine wQn ?_);try simp only [zX])
     all_goals refine hL _ (N - 1) (by omega) ⟨k + 1,by omega,?_⟩
     all_goals simp [g4,g3,g5,g25,g26,g27,b4,b3,b5,hw,hs,hs']
   ·have ho : ¬ okS t.ps[k].s = true := by unfold okS; simp; omega
    have e1 : opnL q.ss t.ps[k].s = q.ss:=by unfold opnL;rw [if_neg ho]
    have e2 : opnN q.nx t.ps[k].s = q.nx:=by unfold opnN;rw [if_neg ho]
    rw [e1,e2] at hs'
    repeat' first|(refine hK _ ?_;clear hK)|(refine hK _ _ ?_;clear hK)|(clear hK;refine hK _ ?_;clear hK)|(clear hK;clear hK;refine hK _ ?_;clear hK)|(clear hK;clear hK;clear hK;refine hK _ ?_;clear hK)|(clear hK;clear hK;clear hK;clear hK;refine hK _ ?_;clear hK)|(refine zJ fun K hK=>?_)|((first | refine zH ?_ | refine zN rfl (by kernel_rfl) ?_ | refine zM ?_ | refine zK (by kernel_rfl) ?_);simp only [wJ,wI,strip])|((first | refine wIs fun K hK=>?_ | refine wOs fun K hK=>?_ | refine wQs fun K hK=>?_ | refine zU ?_ | refine zV ?_ | refine zW ?_ | refine zL ?_);simp [g4,g3,g5,g25,g26,g27,b4,b3,b5,hlt,hw,he,k1,k2,k3,o1])|(refine wIn ?_;refine And.intro (by kernel_rfl) ?_;try simp only [zX])|(first | refine zQ ?_ | refine zS ?_)|((first | refine zI ?_ | refine zO ?_ | refine zP ?_);try simp)|((first | refine zR ?_ | refine wOn ?_ | refine wQn ?_);try simp only [zX])
    all_goals refine hL _ (N - 1) (by omega) ⟨k + 1,by omega,?_⟩
    all_goals simp [g4,g3,g5,g25,g26,g27,b4,b3,b5,hw,hs,hs']
  by_cases k4 : t.ps[k].k = 4
  ·have c := without08_con q.ss t.ps[k].s (by omega)
   have hs' : xL q t.ps[k] = { q with ss:=but q.ss t.ps[k].s }:=by unfold xL;rw [if_neg k1,if_neg k2,if_neg k3,if_pos k4]
   generalize but q.ss t.ps[k].s = n1 at c hs'
   repeat' first|(refine hK _ ?_;clear hK)|(refine hK _ _ ?_;clear hK)|(clear hK;refine hK _ ?_;clear hK)|(clear hK;clear hK;refine hK _ ?_;clear hK)|(clear hK;clear hK;clear hK;refine hK _ ?_;clear hK)|(clear hK;clear hK;clear hK;clear hK;refine hK _ ?_;clear hK)|(refine zJ fun K hK=>?_)|((first | refine zH ?_ | refine zN rfl (by kernel_rfl) ?_ | refine zM ?_ | refine zK (by kernel_rfl) ?_);simp only [wJ,wI,strip])|((first | refine wIs fun K hK=>?_ | refine wOs fun K hK=>?_ | refine wQs fun K hK=>?_ | refine zU ?_ | refine zV ?_ | refine zW ?_ | refine zL ?_);simp [g4,g3,g5,g25,g26,g27,b4,b3,b5,hlt,hw,he,k1,k2,k3,k4])|(refine wIn ?_;refine And.intro (by kernel_rfl) ?_;try simp only [zX])|(first | refine zQ ?_ | refine zS ?_)|((first | refine zI ?_ | refine zO ?_ | refine zP ?_);try simp)|((first | refine zR ?_ | refine wOn ?_ | refine wQn ?_);try simp only [zX])|(refine zZ.pure (c) rfl ?_)|(refine zZ.lent (c) rfl ?_)|(refine zT.pure (c) rfl ?_)|(refine zT.lent (c) rfl ?_)|(refine zZ.own (c) ?_)|(refine zY.pure (c) rfl ?_)|(refine zY.lent (c) rfl ?_)|(refine zY.own (c) ?_)
   refine hL _ (N - 1) (by omega) ⟨k + 1,by omega,?_⟩
   simp [g4,g3,g5,g25,g26,g27,b4,b3,b5,hw,hs,hs']
  by_cases k5 : t.ps[k].k = 5
  ·have c := copied08_con t.ps[k].c.ep t.ps[k].c.n t.ps[k].c.kind (mbs t.ps[k].c.ms) (by rw [mbs_len]; exact hpc)
   have hs' : xL q t.ps[k] = { q with c:=t.ps[k].c }:=by unfold xL;rw [if_neg k1,if_neg k2,if_neg k3,if_neg k4,if_pos k5]
   repeat' first|(refine hK _ ?_;clear hK)|(refine hK _ _ ?_;clear hK)|(clear hK;refine hK _ ?_;clear hK)|(clear hK;clear hK;refine hK _ ?_;clear hK)|(clear hK;clear hK;clear hK;refine hK _ ?_;clear hK)|(clear hK;clear hK;clear hK;clear hK;refine hK _ ?_;clear hK)|(refine zJ fun K hK=>?_)|((first | refine zH ?_ | refine zN rfl (by kernel_rfl) ?_ | refine zM ?_ | refine zK (by kernel_rfl) ?_);simp only [wJ,wI,strip])|((first | refine wIs fun K hK=>?_ | refine wOs fun K hK=>?_ | refine wQs fun K hK=>?_ | refine zU ?_ | refine zV ?_ | refine zW ?_ | refine zL ?_);simp [g4,g3,g5,g25,g26,g27,b4,b3,b5,hlt,hw,he,k1,k2,k3,k4,k5])|(refine wIn ?_;refine And.intro (by kernel_rfl) ?_;try simp only [zX])|(first | refine zQ ?_ | refine zS ?_)|((first | refine zI ?_ | refine zO ?_ | refine zP ?_);try simp)|((first | refine zR ?_ | refine wOn ?_ | refine wQn ?_);try simp only [zX])|(refine zZ.pure (c) rfl ?_)|(refine zZ.lent (c) rfl ?_)|(refine zT.pure (c) rfl ?_)|(refine zT.lent (c) rfl ?_)|(refine zZ.own (c) ?_)|(refine zY.pure (c) rfl ?_)|(refine zY.lent (c) rfl ?_)|(refine zY.own (c) ?_)
   refine hL _ (N - 1) (by omega) ⟨k + 1,by omega,?_⟩
   simp [g4,g3,g5,g25,g26,g27,b4,b3,b5,hw,hs,hs']
  ·have hs' : xL q t.ps[k] = q := by unfold xL; rw [if_neg k1, if_neg k2, if_neg k3, if_neg k4, if_neg k5]
   repeat' first|(refine hK _ ?_;clear hK)|(refine hK _ _ ?_;clear hK)|(clear hK;refine hK _ ?_;clear hK)|(clear hK;clear hK;refine hK _ ?_;clear hK)|(clear hK;clear hK;clear hK;refine hK _ ?_;clear hK)|(clear hK;clear hK;clear hK;clear hK;refine hK _ ?_;clear hK)|(refine zJ fun K hK=>?_)|((first | refine zH ?_ | refine zN rfl (by kernel_rfl) ?_ | refine zM ?_ | refine zK (by kernel_rfl) ?_);simp only [wJ,wI,strip])|((first | refine wIs fun K hK=>?_ | refine wOs fun K hK=>?_ | refine wQs fun K hK=>?_ | refine zU ?_ | refine zV ?_ | refine zW ?_ | refine zL ?_);simp [g4,g3,g5,g25,g26,g27,b4,b3,b5,hlt,hw,he,k1,k2,k3,k4,k5])|(refine wIn ?_;refine And.intro (by kernel_rfl) ?_;try simp only [zX])|(first | refine zQ ?_ | refine zS ?_)|((first | refine zI ?_ | refine zO ?_ | refine zP ?_);try simp)|((first | refine zR ?_ | refine wOn ?_ | refine wQn ?_);try simp only [zX])
   refine hL _ (N - 1) (by omega) ⟨k + 1,by omega,?_⟩
   simp [g4,g3,g5,g25,g26,g27,b4,b3,b5,hw,hs,hs']
 ·rw [List.take_of_length_le (by omega)] at b5
  unfold doS lateS at hr
  simp only [last2] at hr
  generalize runP s t.ps = q at hr b5
  have c:=cmp02_con t.e t.n q.ae q.an
  by_cases o : 0 < zcmp t.e t.n q.ae q.an
  ·simp only [if_pos o] at hr
   repeat' first|(refine hK _ ?_;clear hK)|(refine hK _ _ ?_;clear hK)|(clear hK;refine hK _ ?_;clear hK)|(clear hK;clear hK;refine hK _ ?_;clear hK)|(clear hK;clear hK;clear hK;refine hK _ ?_;clear hK)|(clear hK;clear hK;clear hK;clear hK;refine hK _ ?_;clear hK)|(refine zJ fun K hK=>?_)|((first | refine zH ?_ | refine zN rfl (by kernel_rfl) ?_ | refine zM ?_ | refine zK (by kernel_rfl) ?_);simp only [wJ,wI,strip])|((first | refine wIs fun K hK=>?_ | refine wOs fun K hK=>?_ | refine wQs fun K hK=>?_ | refine zU ?_ | refine zV ?_ | refine zW ?_ | refine zL ?_);simp [g4,g3,g5,g25,g26,g27,b4,b3,b5,hlt,o])|(refine wIn ?_;refine And.intro (by kernel_rfl) ?_;try simp only [zX])|(first | refine zQ ?_ | refine zS ?_)|((first | refine zI ?_ | refine zO ?_ | refine zP ?_);try simp)|((first | refine zR ?_ | refine wOn ?_ | refine wQn ?_);try simp only [zX])|(refine zZ.pure (c) rfl ?_)|(refine zZ.lent (c) rfl ?_)|(refine zT.pure (c) rfl ?_)|(refine zT.lent (c) rfl ?_)|(refine zZ.own (c) ?_)|(refine zY.pure (c) rfl ?_)|(refine zY.lent (c) rfl ?_)|(refine zY.own (c) ?_)
   all_goals apply hr
   all_goals simp [Try.f6,g4,b4,b5]
  ·simp only [if_neg o] at hr
   repeat' first|(refine hK _ ?_;clear hK)|(refine hK _ _ ?_;clear hK)|(clear hK;refine hK _ ?_;clear hK)|(clear hK;clear hK;refine hK _ ?_;clear hK)|(clear hK;clear hK;clear hK;refine hK _ ?_;clear hK)|(clear hK;clear hK;clear hK;clear hK;refine hK _ ?_;clear hK)|(refine zJ fun K hK=>?_)|((first | refine zH ?_ | refine zN rfl (by kernel_rfl) ?_ | refine zM ?_ | refine zK (by kernel_rfl) ?_);simp only [wJ,wI,strip])|((first | refine wIs fun K hK=>?_ | refine wOs fun K hK=>?_ | refine wQs fun K hK=>?_ | refine zU ?_ | refine zV ?_ | refine zW ?_ | refine zL ?_);simp [g4,g3,g5,g25,g26,g27,b4,b3,b5,hlt,o])|(refine wIn ?_;refine And.intro (by kernel_rfl) ?_;try simp only [zX])|(first | refine zQ ?_ | refine zS ?_)|((first | refine zI ?_ | refine zO ?_ | refine zP ?_);try simp)|((first | refine zR ?_ | refine wOn ?_ | refine wQn ?_);try simp only [zX])|(refine zZ.pure (c) rfl ?_)|(refine zZ.lent (c) rfl ?_)|(refine zT.pure (c) rfl ?_)|(refine zT.lent (c) rfl ?_)|(refine zZ.own (c) ?_)|(refine zY.pure (c) rfl ?_)|(refine zY.lent (c) rfl ?_)|(refine zY.own (c) ?_)
   all_goals apply hr
   all_goals simp [Try.f6,g4,b4,b5]
def wZ (l : List Zn) (p : List UInt8) : Zn × Int := if chk p = 0 then (if (fnd l p).2 = true then ((fnd l p).1, 0) else (zz, 6)) else (zz, chk p)
theorem getX (f : Nat) (l : List Zn) (p : List UInt8) : chk p ≠ 0 -> wZ l p = (zz, chk p) := fun h => by unfold wZ; rw [if_neg h]
theorem getN (l : List Zn) (p : List UInt8) (h : chk p = 0) (h2 : (fnd l p).2 = false) : wZ l p = (zz, 6) := by unfold wZ; rw [if_pos h, h2]; rfl
theorem getY (l : List Zn) (p : List UInt8) (h : chk p = 0) (h2 : (fnd l p).2 = true) : wZ l p = ((fnd l p).1, 0) := by unfold wZ; rw [if_pos h, if_pos h2]
theorem get08_con (l : List Zn) (ss ms : List (List PV)) (nx e n k ae an : Int) (p : List UInt8) (hp : p.length <= 9223372036854775807) : zF Try.prog 9 [.p (.agg [.sl 5 (zns l), .sl 1 ss, I nx, I e, I n, I k, .sl 4 ms, I ae, I an]), .p (SB p)] (.tup [.p (.agg (wZ l p).1.c), .p (I (wZ l p).2)]) := by
 have c1:=wR p hp
 have c2:=find07_con l p
 by_cases h : chk p = 0
 ·rw [h] at c1
  cases h2 : (fnd l p).2
  ·rw [getN l p h h2]
   rw [h2] at c2
   generalize (fnd l p).1 = z at c2
   simp only [Zn.c,zz] at c2 ⊢
   refine zG Try.tab Try.mixed Try.func9 rfl rfl Try.ntmps9 (by simp) (by simp) fun Q hr hn=>?_
   repeat' first|(refine hK _ ?_;clear hK)|(refine hK _ _ ?_;clear hK)|(clear hK;refine hK _ ?_;clear hK)|(clear hK;clear hK;refine hK _ ?_;clear hK)|(clear hK;clear hK;clear hK;refine hK _ ?_;clear hK)|(clear hK;clear hK;clear hK;clear hK;refine hK _ ?_;clear hK)|(refine zJ fun K hK=>?_)|((first | refine zH ?_ | refine zN rfl (by kernel_rfl) ?_ | refine zM ?_ | refine zK (by kernel_rfl) ?_);simp only [wJ,wI,strip])|((first | refine wIs fun K hK=>?_ | refine wOs fun K hK=>?_ | refine wQs fun K hK=>?_ | refine zU ?_ | refine zV ?_ | refine zW ?_ | refine zL ?_);simp)|(refine wIn ?_;refine And.intro (by kernel_rfl) ?_;try simp only [zX])|(first | refine zQ ?_ | refine zS ?_)|((first | refine zI ?_ | refine zO ?_ | refine zP ?_);try simp)|((first | refine zR ?_ | refine wOn ?_ | refine wQn ?_);try simp only [zX])|(refine zZ.pure (c1) rfl ?_)|(refine zZ.lent (c1) rfl ?_)|(refine zT.pure (c1) rfl ?_)|(refine zT.lent (c1) rfl ?_)|(refine zZ.own (c1) ?_)|(refine zY.pure (c1) rfl ?_)|(refine zY.lent (c1) rfl ?_)|(refine zY.own (c1) ?_)|(refine zZ.pure (c2) rfl ?_)|(refine zZ.lent (c2) rfl ?_)|(refine zT.pure (c2) rfl ?_)|(refine zT.lent (c2) rfl ?_)|(refine zZ.own (c2) ?_)|(refine zY.pure (c2) rfl ?_)|(refine zY.lent (c2) rfl ?_)|(refine zY.own (c2) ?_)
   all_goals apply hr
   all_goals simp [Try.f9]
  ·rw [getY l p h h2]
   rw [h2] at c2
   generalize (fnd l p).1 = z at c2 ⊢
   simp only [Zn.c] at c2 ⊢
   refine zG Try.tab Try.mixed Try.func9 rfl rfl Try.ntmps9 (by simp) (by simp) fun Q hr hn=>?_
   repeat' first|(refine hK _ ?_;clear hK)|(refine hK _ _ ?_;clear hK)|(clear hK;refine hK _ ?_;clear hK)|(clear hK;clear hK;refine hK _ ?_;clear hK)|(clear hK;clear hK;clear hK;refine hK _ ?_;clear hK)|(clear hK;clear hK;clear hK;clear hK;refine hK _ ?_;clear hK)|(refine zJ fun K hK=>?_)|((first | refine zH ?_ | refine zN rfl (by kernel_rfl) ?_ | refine zM ?_ | refine zK (by kernel_rfl) ?_);simp only [wJ,wI,strip])|((first | refine wIs fun K hK=>?_ | refine wOs fun K hK=>?_ | refine wQs fun K hK=>?_ | refine zU ?_ | refine zV ?_ | refine zW ?_ | refine zL ?_);simp)|(refine wIn ?_;refine And.intro (by kernel_rfl) ?_;try simp only [zX])|(first | refine zQ ?_ | refine zS ?_)|((first | refine zI ?_ | refine zO ?_ | refine zP ?_);try simp)|((first | refine zR ?_ | refine wOn ?_ | refine wQn ?_);try simp only [zX])|(refine zZ.pure (c1) rfl ?_)|(refine zZ.lent (c1) rfl ?_)|(refine zT.pure (c1) rfl ?_)|(refine zT.lent (c1) rfl ?_)|(refine zZ.own (c1) ?_)|(refine zY.pure (c1) rfl ?_)|(refine zY.lent (c1) rfl ?_)|(refine zY.own (c1) ?_)|(refine zZ.pure (c2) rfl ?_)|(refine zZ.lent (c2) rfl ?_)|(refine zT.pure (c2) rfl ?_)|(refine zT.lent (c2) rfl ?_)|(refine zZ.own (c2) ?_)|(refine zY.pure (c2) rfl ?_)|(refine zY.lent (c2) rfl ?_)|(refine zY.own (c2) ?_)
   all_goals apply hr
   all_goals simp [Try.f9]
 ·rw [getX 0 l p h]
  generalize chk p = x at h c1 ⊢
  simp only [Zn.c,zz]
  refine zG Try.tab Try.mixed Try.func9 rfl rfl Try.ntmps9 (by simp) (by simp) fun Q hr hn=>?_
  repeat' first|(refine hK _ ?_;clear hK)|(refine hK _ _ ?_;clear hK)|(clear hK;refine hK _ ?_;clear hK)|(clear hK;clear hK;refine hK _ ?_;clear hK)|(clear hK;clear hK;clear hK;refine hK _ ?_;clear hK)|(clear hK;clear hK;clear hK;clear hK;refine hK _ ?_;clear hK)|(refine zJ fun K hK=>?_)|((first | refine zH ?_ | refine zN rfl (by kernel_rfl) ?_ | refine zM ?_ | refine zK (by kernel_rfl) ?_);simp only [wJ,wI,strip])|((first | refine wIs fun K hK=>?_ | refine wOs fun K hK=>?_ | refine wQs fun K hK=>?_ | refine zU ?_ | refine zV ?_ | refine zW ?_ | refine zL ?_);simp [h])|(refine wIn ?_;refine And.intro (by kernel_rfl) ?_;try simp only [zX])|(first | refine zQ ?_ | refine zS ?_)|((first | refine zI ?_ | refine zO ?_ | refine zP ?_);try simp)|((first | refine zR ?_ | refine wOn ?_ | refine wQn ?_);try simp only [zX])|(refine zZ.pure (c1) rfl ?_)|(refine zZ.lent (c1) rfl ?_)|(refine zT.pure (c1) rfl ?_)|(refine zT.lent (c1) rfl ?_)|(refine zZ.own (c1) ?_)|(refine zY.pure (c1) rfl ?_)|(refine zY.lent (c1) rfl ?_)|(refine zY.own (c1) ?_)
  all_goals apply hr
  all_goals simp [Try.f9]
def kidZ (l : List Zn) (p : List UInt8) : List (List UInt8) := if (wZ l p).2 = 0 then kds l p else []
theorem skids08_con (l : List Zn) (ss ms : List (List PV)) (nx e n k ae an : Int) (p : List UInt8) (hp : p.length <= 9223372036854775807) (hl : l.length <= 1000000) (hz : ∀ z ∈ l, long z) : zF Try.prog 10 [.p (.agg [.sl 5 (zns l), .sl 1 ss, I nx, I e, I n, I k, .sl 4 ms, I ae, I an]), .p (SB p)] (.tup [.p (.sl 1 (txs (kidZ l p))), .p (I (wZ l p).2)]) := by
 have c1:=get08_con l ss ms nx e n k ae an p hp
 have c2:=kids07_con l p hl hz
 unfold kidZ
 generalize wZ l p = r at c1 ⊢
 obtain ⟨z,x⟩:=r
 dsimp only at c1 ⊢
 generalize hc : z.c = zc at c1
 simp only [Zn.c] at hc
 subst hc
 by_cases h : x = 0
 ·subst h
  simp only [if_true]
  generalize txs (kds l p) = t at c2 ⊢
  refine zG Try.tab Try.mixed Try.func10 rfl rfl Try.ntmps10 (by simp) (by simp) fun Q hr hn=>?_
  repeat' first|(refine hK _ ?_;clear hK)|(refine hK _ _ ?_;clear hK)|(clear hK;refine hK _ ?_;clear hK)|(clear hK;clear hK;refine hK _ ?_;clear hK)|(clear hK;clear hK;clear hK;refine hK _ ?_;clear hK)|(clear hK;clear hK;clear hK;clear hK;refine hK _ ?_;clear hK)|(refine zJ fun K hK=>?_)|((first | refine zH ?_ | refine zN rfl (by kernel_rfl) ?_ | refine zM ?_ | refine zK (by kernel_rfl) ?_);simp only [wJ,wI,strip])|((first | refine wIs fun K hK=>?_ | refine wOs fun K hK=>?_ | refine wQs fun K hK=>?_ | refine zU ?_ | refine zV ?_ | refine zW ?_ | refine zL ?_);simp)|(refine wIn ?_;refine And.intro (by kernel_rfl) ?_;try simp only [zX])|(first | refine zQ ?_ | refine zS ?_)|((first | refine zI ?_ | refine zO ?_ | refine zP ?_);try simp)|((first | refine zR ?_ | refine wOn ?_ | refine wQn ?_);try simp only [zX])|(refine zZ.pure (c1) rfl ?_)|(refine zZ.lent (c1) rfl ?_)|(refine zT.pure (c1) rfl ?_)|(refine zT.lent (c1) rfl ?_)|(refine zZ.own (c1) ?_)|(refine zY.pure (c1) rfl ?_)|(refine zY.lent (c1) rfl ?_)|(refine zY.own (c1) ?_)|(refine zZ.pure (c2) rfl ?_)|(refine zZ.lent (c2) rfl ?_)|(refine zT.pure (c2) rfl ?_)|(refine zT.lent (c2) rfl ?_)|(refine zZ.own (c2) ?_)|(refine zY.pure (c2) rfl ?_)|(refine zY.lent (c2) rfl ?_)|(refine zY.own (c2) ?_)
  all_goals apply hr
  all_goals simp [Try.f10]
 ·rw [if_neg h]
  refine zG Try.tab Try.mixed Try.func10 rfl rfl Try.ntmps10 (by simp) (by simp) fun Q hr hn=>?_
  repeat' first|(refine hK _ ?_;clear hK)|(refine hK _ _ ?_;clear hK)|(clear hK;refine hK _ ?_;clear hK)|(clear hK;clear hK;refine hK _ ?_;clear hK)|(clear hK;clear hK;clear hK;refine hK _ ?_;clear hK)|(clear hK;clear hK;clear hK;clear hK;refine hK _ ?_;clear hK)|(refine zJ fun K hK=>?_)|((first | refine zH ?_ | refine zN rfl (by kernel_rfl) ?_ | refine zM ?_ | refine zK (by kernel_rfl) ?_);simp only [wJ,wI,strip])|((first | refine wIs fun K hK=>?_ | refine wOs fun K hK=>?_ | refine wQs fun K hK=>?_ | refine zU ?_ | refine zV ?_ | refine zW ?_ | refine zL ?_);simp [h])|(refine wIn ?_;refine And.intro (by kernel_rfl) ?_;try simp only [zX])|(first | refine zQ ?_ | refine zS ?_)|((first | refine zI ?_ | refine zO ?_ | refine zP ?_);try simp)|((first | refine zR ?_ | refine wOn ?_ | refine wQn ?_);try simp only [zX])|(refine zZ.pure (c1) rfl ?_)|(refine zZ.lent (c1) rfl ?_)|(refine zT.pure (c1) rfl ?_)|(refine zT.lent (c1) rfl ?_)|(refine zZ.own (c1) ?_)|(refine zY.pure (c1) rfl ?_)|(refine zY.lent (c1) rfl ?_)|(refine zY.own (c1) ?_)
  all_goals apply hr
  all_goals simp [Try.f10,txs]
end Go.Proofs.Ytpilcadofjcdoaa
namespace Go.Proofs.Ytpilcadofjcdoaa
set_option linter.unusedSimpArgs false
set_option linter.unusedVariables false
open Go Go.Av Go.Lib
attribute [local irreducible] Go.Av.yQ Go.Av.zZ Go.Av.yG Go.Av.zT Go.Av.yH Go.Av.zY Go.Av.Con
def pw : Nat -> Nat -> List UInt8
 | 0,_=>[]
 | w + 1,n=>pw w (n / 10) ++ [UInt8.ofNat (48 + n % 10)]
theorem pw_len : ∀ (w n : Nat), (pw w n).length = w
 | 0,_=>rfl
 | w + 1,n=>by rw [pw,List.length_append,pw_len w];rfl
theorem pw_front : ∀ (w n : Nat), pw (w + 1) n = UInt8.ofNat (48 + n / 10 ^ w % 10) :: pw w n
 | 0,n=>by simp [pw]
 | w + 1, n => by
  rw [pw,pw_front w (n / 10)]
  have e : n / 10 / 10 ^ w = n / 10 ^ (w + 1):=by rw [Nat.div_div_eq_div_mul,Nat.pow_succ,Nat.mul_comm]
  rw [e,List.cons_append];rfl
def nbr (p : List UInt8) (n : Int) : List UInt8 := p ++ pw 10 n.toNat
def nmb (p : List UInt8) (n : Int) : List UInt8 × Int := if 64 < p.length then ([], 5) else if n < 0 \/ 9999999999 < n then ([], 1) else if chk (nbr p n) = 0 then (nbr p n, 0) else ([], chk (nbr p n))
def dcell (b : UInt8) : List PV := [.v (.int .u8 b.toNat)]
theorem unL_dc : ∀ l : List UInt8, unL (l.map dcell) = some (l.map fun b => (b.toNat : Int))
 | []=>rfl
 | b :: l => by
  show (match unL (l.map dcell) with | some ns=>some ((b.toNat : Int) :: ns) | none=>none) = _
  rw [unL_dc l];rfl
theorem push_bs (a : List UInt8) (b : UInt8) : (bs a).push (UInt8.ofNat ((b.toNat : Nat) : Int).toNat) = bs (a ++ [b]) := by
 have e : UInt8.ofNat ((b.toNat : Nat) : Int).toNat = b:=by rw [Int.toNat_natCast,UInt8.ofNat_toNat]
 rw [e]
 show ByteArray.mk (a.toArray.push b) = ByteArray.mk (a ++ [b]).toArray
 rw [List.push_toArray]
theorem strOf_dc (l : List UInt8) : strOf (l.map fun b => (b.toNat : Int)) = bs l := by
 have key : ∀ (l a : List UInt8), (l.map fun b => (b.toNat : Int)).foldl (fun r n => r.push (UInt8.ofNat n.toNat)) (bs a) = bs (a ++ l) := by
  intro l
  induction l with
  | nil=>intro a;rw [List.append_nil];rfl
  | cons b l ih =>
   intro a
   rw [wJ,List.foldl_cons,push_bs,ih,List.append_assoc];rfl
 exact key l []
def drow (n k : Nat) : List (List PV) := List.replicate (10 - k) [.v (.int .u8 0)] ++ (pw k n).map dcell
theorem set_rep {α : Type} (z c : α) : ∀ (j : Nat) (r : List α), (List.replicate (j + 1) z ++ r).set j c = List.replicate j z ++ c :: r
 | 0,r=>by simp
 | j + 1, r => by
  have:=set_rep z c j r
  rw [List.replicate_succ,List.cons_append,List.set_cons_succ,this]
  rw [List.replicate_succ,List.cons_append]
theorem drow_step {n k : Nat} (h : k < 10) : (drow n k).set (9 - k) [.v (.int .u8 ((48 + n / 10 ^ k % 10 : Nat) : Int))] = drow n (k + 1) := by
 have hd : n / 10 ^ k % 10 < 10:=Nat.mod_lt _ (by omega)
 unfold drow
 rw [pw_front,wJ,show 10 - k = 9 - k + 1 by omega,set_rep,show 10 - (k + 1) = 9 - k by omega]
 have : (UInt8.ofNat (48 + n / 10 ^ k % 10)).toNat = 48 + n / 10 ^ k % 10:=by rw [UInt8.toNat_ofNat'];omega
 rw [dcell,this]
theorem drow_len {n k : Nat} (h : k <= 10) : (drow n k).length = 10 := by
 unfold drow;rw [List.length_append,List.length_replicate,List.length_map,pw_len];omega
theorem numbered03_con (p : List UInt8) (n : Int) (hp : p.length <= 9223372036854775807) : zF Try.prog 69 [.p (SB p), .p (I n)] (.tup [.p (SB (nmb p n).1), .p (I (nmb p n).2)]) := by
 unfold nmb
 by_cases h1 : 64 < p.length
 ·have h1' : (64 : Int) < p.length := by omega
  rw [if_pos h1]
  refine zG Try.tab Try.mixed Try.func69 rfl rfl Try.ntmps69 (by simp) (by simp) fun Q hr hn=>?_
  repeat' first|(refine hK _ ?_;clear hK)|(refine hK _ _ ?_;clear hK)|(clear hK;refine hK _ ?_;clear hK)|(clear hK;clear hK;refine hK _ ?_;clear hK)|(clear hK;clear hK;clear hK;refine hK _ ?_;clear hK)|(clear hK;clear hK;clear hK;clear hK;refine hK _ ?_;clear hK)|(refine zJ fun K hK=>?_)|((first | refine zH ?_ | refine zN rfl (by kernel_rfl) ?_ | refine zM ?_ | refine zK (by kernel_rfl) ?_);simp only [wJ,wI,strip])|((first | refine wIs fun K hK=>?_ | refine wOs fun K hK=>?_ | refine wQs fun K hK=>?_ | refine zU ?_ | refine zV ?_ | refine zW ?_ | refine zL ?_);simp [h1,h1'])|(refine wIn ?_;refine And.intro (by kernel_rfl) ?_;try simp only [zX])|(first | refine zQ ?_ | refine zS ?_)|((first | refine zI ?_ | refine zO ?_ | refine zP ?_);try simp)|((first | refine zR ?_ | refine wOn ?_ | refine wQn ?_);try simp only [zX])
  all_goals apply hr
  all_goals simp [Try.f69]
 have h1' : ¬ (64 : Int) < p.length:=by omega
 rw [if_neg h1]
 by_cases h2 : n < 0
 ·rw [if_pos (.inl h2)]
  refine zG Try.tab Try.mixed Try.func69 rfl rfl Try.ntmps69 (by simp) (by simp) fun Q hr hn=>?_
  repeat' first|(refine hK _ ?_;clear hK)|(refine hK _ _ ?_;clear hK)|(clear hK;refine hK _ ?_;clear hK)|(clear hK;clear hK;refine hK _ ?_;clear hK)|(clear hK;clear hK;clear hK;refine hK _ ?_;clear hK)|(clear hK;clear hK;clear hK;clear hK;refine hK _ ?_;clear hK)|(refine zJ fun K hK=>?_)|((first | refine zH ?_ | refine zN rfl (by kernel_rfl) ?_ | refine zM ?_ | refine zK (by kernel_rfl) ?_);simp only [wJ,wI,strip])|((first | refine wIs fun K hK=>?_ | refine wOs fun K hK=>?_ | refine wQs fun K hK=>?_ | refine zU ?_ | refine zV ?_ | refine zW ?_ | refine zL ?_);simp [h1,h1',h2])|(refine wIn ?_;refine And.intro (by kernel_rfl) ?_;try simp only [zX])|(first | refine zQ ?_ | refine zS ?_)|((first | refine zI ?_ | refine zO ?_ | refine zP ?_);try simp)|((first | refine zR ?_ | refine wOn ?_ | refine wQn ?_);try simp only [zX])
  all_goals apply hr
  all_goals simp [Try.f69]
 by_cases h3 : 9999999999 < n
 ·rw [if_pos (.inr h3)]
  refine zG Try.tab Try.mixed Try.func69 rfl rfl Try.ntmps69 (by simp) (by simp) fun Q hr hn=>?_
  repeat' first|(refine hK _ ?_;clear hK)|(refine hK _ _ ?_;clear hK)|(clear hK;refine hK _ ?_;clear hK)|(clear hK;clear hK;refine hK _ ?_;clear hK)|(clear hK;clear hK;clear hK;refine hK _ ?_;clear hK)|(clear hK;clear hK;clear hK;clear hK;refine hK _ ?_;clear hK)|(refine zJ fun K hK=>?_)|((first | refine zH ?_ | refine zN rfl (by kernel_rfl) ?_ | refine zM ?_ | refine zK (by kernel_rfl) ?_);simp only [wJ,wI,strip])|((first | refine wIs fun K hK=>?_ | refine wOs fun K hK=>?_ | refine wQs fun K hK=>?_ | refine zU ?_ | refine zV ?_ | refine zW ?_ | refine zL ?_);simp [h1,h1',h2,h3])|(refine wIn ?_;refine And.intro (by kernel_rfl) ?_;try simp only [zX])|(first | refine zQ ?_ | refine zS ?_)|((first | refine zI ?_ | refine zO ?_ | refine zP ?_);try simp)|((first | refine zR ?_ | refine wOn ?_ | refine wQn ?_);try simp only [zX])
  all_goals apply hr
  all_goals simp [Try.f69]
 rw [if_neg (by omega)]
 have hlen : (nbr p n).length = p.length + 10:=by rw [nbr,List.length_append,pw_len]
 have c3:=wR (nbr p n) (by omega)
 obtain ⟨N,rfl⟩ : ∃ N : Nat,n = N:=⟨n.toNat,by omega⟩
 have hN : N <= 9999999999:=by omega
 have e : p ++ pw 10 N = nbr p N:=rfl
 generalize nbr p N = t at c3 e ⊢
 refine zG Try.tab Try.mixed Try.func69 rfl rfl Try.ntmps69 (by simp) (by simp) fun Q hr hn=>?_
 repeat' first|(refine hK _ ?_;clear hK)|(refine hK _ _ ?_;clear hK)|(clear hK;refine hK _ ?_;clear hK)|(clear hK;clear hK;refine hK _ ?_;clear hK)|(clear hK;clear hK;clear hK;refine hK _ ?_;clear hK)|(clear hK;clear hK;clear hK;clear hK;refine hK _ ?_;clear hK)|(refine zJ fun K hK=>?_)|((first | refine zH ?_ | refine zN rfl (by kernel_rfl) ?_ | refine zM ?_ | refine zK (by kernel_rfl) ?_);simp only [wJ,wI,strip])|((first | refine wIs fun K hK=>?_ | refine wOs fun K hK=>?_ | refine wQs fun K hK=>?_ | refine zU ?_ | refine zV ?_ | refine zW ?_ | refine zL ?_);simp [h1,h1',h2,h3])|(refine wIn ?_;refine And.intro (by kernel_rfl) ?_;try simp only [zX])|(first | refine zQ ?_ | refine zS ?_)|((first | refine zI ?_ | refine zO ?_ | refine zP ?_);try simp)|((first | refine zR ?_ | refine wOn ?_ | refine wQn ?_);try simp only [zX])
 refine xS (fun M st=>∃ k,k + M = 10 /\ st.s 0 = .p (SB p) /\ st.s 1 = .p (I (N / 10 ^ k : Nat)) /\ st.s 20 = .p (I k) /\ st.s 6 = .row 19 /\ st.b 19 = some (.row 5 1 (drow N k))) 10 ⟨0,by simp [drow,pw]⟩ fun K M st hL ⟨k,hk,g0,g1,g20,g6,b19⟩=>?_
 by_cases hlt : k < 10
 ·have hw := xY k 10 hlt (by omega)
  have hlt' : (k : Int) < 10:=by omega
  have hs:=drow_step (n:=N) hlt
  have hl:=drow_len (n:=N) (k:=k) (by omega)
  have hw9 : IntKind.i64.wrap (9 - (k : Int)) = ((9 - k : Nat) : Int):=by rw [yW] <;> omega
  have hm : ((N / 10 ^ k : Nat) : Int).tmod 10 = ((N / 10 ^ k % 10 : Nat) : Int):=rfl
  have hd : ((N / 10 ^ k : Nat) : Int).tdiv 10 = ((N / 10 ^ (k + 1) : Nat) : Int) := by
   rw [Nat.pow_succ,<- Nat.div_div_eq_div_mul];rfl
  have hb : N / 10 ^ (k + 1) <= 9999999999:=Nat.le_trans (Nat.div_le_self _ _) hN
  have hdg : N / 10 ^ k % 10 < 10:=Nat.mod_lt _ (by omega)
  generalize hn2 : N / 10 ^ (k + 1) = n2 at hd hb ⊢
  have hwd : IntKind.i64.wrap (n2 : Int) = (n2 : Int):=by rw [yW] <;> omega
  generalize N / 10 ^ k % 10 = dg at hs hm hdg
  generalize N / 10 ^ k = n1 at hm hd g1
  have hwa : IntKind.i64.wrap (48 + (dg : Int)) = 48 + (dg : Int):=by rw [yW] <;> omega
  have hwb : IntKind.u8.wrap (48 + (dg : Int)) = 48 + (dg : Int):=by simp [IntKind.wrap,IntKind.bits,IntKind.signed];omega
  have h9 : 9 - k < 10:=by omega
  have hs' : (drow N k).set (9 - k) [PV.v (Value.int IntKind.u8 (48 + (dg : Int)))] = drow N (k + 1):=by rw [<- hs];congr 4
  have hg : ∃ y, (drow N k)[9 - k]? = some [y] := by
   have : 9 - k < (drow N k).length:=by omega
   refine ⟨.v (.int .u8 0),?_⟩
   unfold drow
   rw [List.getElem?_append_left (by simp;omega),List.getElem?_replicate,if_pos (by omega)]
  obtain ⟨y,hg⟩:=hg
  have hg' : ∀ h,(drow N k)[9 - k]'h = [y]:=fun h=>by rw [List.getElem?_eq_getElem h] at hg;simpa using hg
  repeat' first|(refine hK _ ?_;clear hK)|(refine hK _ _ ?_;clear hK)|(clear hK;refine hK _ ?_;clear hK)|(clear hK;clear hK;refine hK _ ?_;clear hK)|(clear hK;clear hK;clear hK;refine hK _ ?_;clear hK)|(clear hK;clear hK;clear hK;clear hK;refine hK _ ?_;clear hK)|(refine zJ fun K hK=>?_)|((first | refine zH ?_ | refine zN rfl (by kernel_rfl) ?_ | refine zM ?_ | refine zK (by kernel_rfl) ?_);simp only [wJ,wI,strip])|((first | refine wIs fun K hK=>?_ | refine wOs fun K hK=>?_ | refine wQs fun K hK=>?_ | refine zU ?_ | refine zV ?_ | refine zW ?_ | refine zL ?_);simp [g0,g1,g20,g6,b19,hlt,hlt',hw,hw9,hm,hd,hwd,hwa,hwb,hl,h9,hg',hs',PV.one,toPs,toP])|(refine wIn ?_;refine And.intro (by kernel_rfl) ?_;try simp only [zX])|(first | refine zQ ?_ | refine zS ?_)|((first | refine zI ?_ | refine zO ?_ | refine zP ?_);try simp)|((first | refine zR ?_ | refine wOn ?_ | refine wQn ?_);try simp only [zX])
  refine hL _ (M - 1) (by omega) ⟨k + 1,by omega,?_⟩
  rw [hn2]
  simp [g0,g1,g20,g6,b19,hw]
 ·obtain rfl : k = 10 := by omega
  have hd0 : drow N 10 = (pw 10 N).map dcell:=by simp [drow]
  rw [hd0] at b19
  have hpl : (pw 10 N).length = 10:=pw_len 10 N
  have hs1 : p.length + 10 <= 9223372036854775807:=by omega
  generalize pw 10 N = q at b19 e hpl
  have hu:=unL_dc q
  have hso:=strOf_dc q
  by_cases h4 : chk t = 0
  ·rw [if_pos h4] at hr
   rw [h4] at c3
   repeat' first|(refine hK _ ?_;clear hK)|(refine hK _ _ ?_;clear hK)|(clear hK;refine hK _ ?_;clear hK)|(clear hK;clear hK;refine hK _ ?_;clear hK)|(clear hK;clear hK;clear hK;refine hK _ ?_;clear hK)|(clear hK;clear hK;clear hK;clear hK;refine hK _ ?_;clear hK)|(refine zJ fun K hK=>?_)|((first | refine zH ?_ | refine zN rfl (by kernel_rfl) ?_ | refine zM ?_ | refine zK (by kernel_rfl) ?_);simp only [wJ,wI,strip])|((first | refine wIs fun K hK=>?_ | refine wOs fun K hK=>?_ | refine wQs fun K hK=>?_ | refine zU ?_ | refine zV ?_ | refine zW ?_ | refine zL ?_);simp [g0,g1,g20,g6,b19,e,hpl,hs1,hu,hso])|(refine wIn ?_;refine And.intro (by kernel_rfl) ?_;try simp only [zX])|(first | refine zQ ?_ | refine zS ?_)|((first | refine zI ?_ | refine zO ?_ | refine zP ?_);try simp)|((first | refine zR ?_ | refine wOn ?_ | refine wQn ?_);try simp only [zX])|(refine zZ.pure (c3) rfl ?_)|(refine zZ.lent (c3) rfl ?_)|(refine zT.pure (c3) rfl ?_)|(refine zT.lent (c3) rfl ?_)|(refine zZ.own (c3) ?_)|(refine zY.pure (c3) rfl ?_)|(refine zY.lent (c3) rfl ?_)|(refine zY.own (c3) ?_)
   all_goals apply hr
   all_goals simp [Try.f69,e]
  ·rw [if_neg h4] at hr
   generalize chk t = z at c3 h4 hr
   repeat' first|(refine hK _ ?_;clear hK)|(refine hK _ _ ?_;clear hK)|(clear hK;refine hK _ ?_;clear hK)|(clear hK;clear hK;refine hK _ ?_;clear hK)|(clear hK;clear hK;clear hK;refine hK _ ?_;clear hK)|(clear hK;clear hK;clear hK;clear hK;refine hK _ ?_;clear hK)|(refine zJ fun K hK=>?_)|((first | refine zH ?_ | refine zN rfl (by kernel_rfl) ?_ | refine zM ?_ | refine zK (by kernel_rfl) ?_);simp only [wJ,wI,strip])|((first | refine wIs fun K hK=>?_ | refine wOs fun K hK=>?_ | refine wQs fun K hK=>?_ | refine zU ?_ | refine zV ?_ | refine zW ?_ | refine zL ?_);simp [g0,g1,g20,g6,b19,e,hpl,hs1,hu,hso,h4])|(refine wIn ?_;refine And.intro (by kernel_rfl) ?_;try simp only [zX])|(first | refine zQ ?_ | refine zS ?_)|((first | refine zI ?_ | refine zO ?_ | refine zP ?_);try simp)|((first | refine zR ?_ | refine wOn ?_ | refine wQn ?_);try simp only [zX])|(refine zZ.pure (c3) rfl ?_)|(refine zZ.lent (c3) rfl ?_)|(refine zT.pure (c3) rfl ?_)|(refine zT.lent (c3) rfl ?_)|(refine zZ.own (c3) ?_)|(refine zY.pure (c3) rfl ?_)|(refine zY.lent (c3) rfl ?_)|(refine zY.own (c3) ?_)
   all_goals apply hr
   all_goals simp [Try.f69,e]
end Go.Proofs.Ytpilcadofjcdoaa
namespace Go.Proofs.Ytpilcadofjcdoaa
set_option linter.unusedSimpArgs false
set_option linter.unusedVariables false
set_option maxRecDepth 8000
open Go Go.Av
attribute [local irreducible] Go.Av.yQ Go.Av.zZ Go.Av.yG Go.Av.zT Go.Av.yH Go.Av.zY Go.Av.Con
def cf0 : Cf := ⟨0, 0, 0, []⟩
def PtOk (p : Pt) : Prop := long p.z /\ p.c.ms.length <= 400000
def PsOk (l : List Pt) : Prop := ∀ p ∈ l, PtOk p
def putP (z : Zn) : Pt := ⟨1, z, 0, cf0⟩
def gonP (p : List UInt8) : Pt := ⟨2, ⟨p, [], 0, 0, 0⟩, 0, cf0⟩
def nilP : Pt := ⟨0, zz, 0, cf0⟩
theorem zz_long : long zz := ⟨by decide, by decide⟩
theorem putP_ok {z : Zn} (h : long z) : PtOk (putP z) := ⟨h, Nat.zero_le _⟩
theorem nilP_ok : PtOk nilP := ⟨zz_long, Nat.zero_le _⟩
theorem getZ_long {ns : List Zn} (h : ∀ z ∈ ns, long z) (p : List UInt8) : long (wZ ns p).1 := by
 unfold wZ
 split
 ·split
  ·rename_i hb;exact h _ (fnd_mem hb).1
  ·exact zz_long
 ·exact zz_long
theorem get08s_con (s : Sv) (p : List UInt8) (hp : p.length <= 9223372036854775807) : zF Try.prog 9 [.p (.agg s.cells), .p (SB p)] (.tup [.p (.agg (wZ s.ns p).1.c), .p (I (wZ s.ns p).2)]) :=
 get08_con s.ns (ints s.ss) (mbs s.c.ms) s.nx s.c.ep s.c.n s.c.kind s.ae s.an p hp
theorem put09_con (z : Zn) : zF Try.prog 60 [.p (.agg z.c)] (.p (.agg (putP z).cells)) := by
 obtain ⟨p,d,v,k,o⟩:=z
 unfold putP cf0 Pt.cells Zn.c
 dsimp only
 refine zG Try.tab Try.mixed Try.func60 rfl rfl Try.ntmps60 (by simp) (by simp) fun Q hr hn=>?_
 repeat' first|(refine hK _ ?_;clear hK)|(refine hK _ _ ?_;clear hK)|(clear hK;refine hK _ ?_;clear hK)|(clear hK;clear hK;refine hK _ ?_;clear hK)|(clear hK;clear hK;clear hK;refine hK _ ?_;clear hK)|(clear hK;clear hK;clear hK;clear hK;refine hK _ ?_;clear hK)|(refine zJ fun K hK=>?_)|((first | refine zH ?_ | refine zN rfl (by kernel_rfl) ?_ | refine zM ?_ | refine zK (by kernel_rfl) ?_);simp only [wJ,wI,strip])|((first | refine wIs fun K hK=>?_ | refine wOs fun K hK=>?_ | refine wQs fun K hK=>?_ | refine zU ?_ | refine zV ?_ | refine zW ?_ | refine zL ?_);simp)|(refine wIn ?_;refine And.intro (by kernel_rfl) ?_;try simp only [zX])|(first | refine zQ ?_ | refine zS ?_)|((first | refine zI ?_ | refine zO ?_ | refine zP ?_);try simp)|((first | refine zR ?_ | refine wOn ?_ | refine wQn ?_);try simp only [zX])
 all_goals apply hr
 all_goals simp [Try.f60,mbs]
theorem gone09_con (p : List UInt8) : zF Try.prog 42 [.p (SB p)] (.p (.agg (gonP p).cells)) := by
 unfold gonP cf0 Pt.cells
 dsimp only
 refine zG Try.tab Try.mixed Try.func42 rfl rfl Try.ntmps42 (by simp) (by simp) fun Q hr hn=>?_
 repeat' first|(refine hK _ ?_;clear hK)|(refine hK _ _ ?_;clear hK)|(clear hK;refine hK _ ?_;clear hK)|(clear hK;clear hK;refine hK _ ?_;clear hK)|(clear hK;clear hK;clear hK;refine hK _ ?_;clear hK)|(clear hK;clear hK;clear hK;clear hK;refine hK _ ?_;clear hK)|(refine zJ fun K hK=>?_)|((first | refine zH ?_ | refine zN rfl (by kernel_rfl) ?_ | refine zM ?_ | refine zK (by kernel_rfl) ?_);simp only [wJ,wI,strip])|((first | refine wIs fun K hK=>?_ | refine wOs fun K hK=>?_ | refine wQs fun K hK=>?_ | refine zU ?_ | refine zV ?_ | refine zW ?_ | refine zL ?_);simp [show ByteArray.empty = bs [] from rfl])|(refine wIn ?_;refine And.intro (by kernel_rfl) ?_;try simp only [zX])|(first | refine zQ ?_ | refine zS ?_)|((first | refine zI ?_ | refine zO ?_ | refine zP ?_);try simp)|((first | refine zR ?_ | refine wOn ?_ | refine wQn ?_);try simp only [zX])
 all_goals apply hr
 all_goals simp [Try.f42,mbs,show ByteArray.empty = bs [] from rfl]
set_option maxHeartbeats 2000000 in
theorem bumped_ex (s : Sv) (p : List UInt8) (hp : p.length <= 9223372036854775807) (hn : ∀ z ∈ s.ns, long z) :
 ∃ (pt : Pt) (e : Int),PtOk pt /\ zF Try.prog 41 [.p (.agg s.cells),.p (SB p)] (.tup [.p (.agg pt.cells),.p (I e)]):=by
 have c1:=get08s_con s p hp
 have hl:=getZ_long hn p
 generalize wZ s.ns p = g at c1 hl
 obtain ⟨⟨zp,zd,zv,zk,zo⟩,ge⟩:=g
 dsimp only at c1 hl
 unfold Sv.cells Zn.c at *
 dsimp only at *
 by_cases h1 : ge = 0
 case neg =>
  have h1':=eq_false h1
  refine ⟨nilP,ge,nilP_ok,?_⟩
  unfold nilP zz cf0 Pt.cells
  dsimp only
  refine zG Try.tab Try.mixed Try.func41 rfl rfl Try.ntmps41 (by simp) (by simp) fun Q hr hn=>?_
  repeat' first|(refine hK _ ?_;clear hK)|(refine hK _ _ ?_;clear hK)|(clear hK;refine hK _ ?_;clear hK)|(clear hK;clear hK;refine hK _ ?_;clear hK)|(clear hK;clear hK;clear hK;refine hK _ ?_;clear hK)|(clear hK;clear hK;clear hK;clear hK;refine hK _ ?_;clear hK)|(refine zJ fun K hK=>?_)|((first | refine zH ?_ | refine zN rfl (by kernel_rfl) ?_ | refine zM ?_ | refine zK (by kernel_rfl) ?_);simp only [wJ,wI,strip])|((first | refine wIs fun K hK=>?_ | refine wOs fun K hK=>?_ | refine wQs fun K hK=>?_ | refine zU ?_ | refine zV ?_ | refine zW ?_ | refine zL ?_);simp [h1',show ByteArray.empty = bs [] from rfl])|(refine wIn ?_;refine And.intro (by kernel_rfl) ?_;try simp only [zX])|(first | refine zQ ?_ | refine zS ?_)|((first | refine zI ?_ | refine zO ?_ | refine zP ?_);try simp)|((first | refine zR ?_ | refine wOn ?_ | refine wQn ?_);try simp only [zX])|(refine zZ.pure (c1) rfl ?_)|(refine zZ.lent (c1) rfl ?_)|(refine zT.pure (c1) rfl ?_)|(refine zT.lent (c1) rfl ?_)|(refine zZ.own (c1) ?_)|(refine zY.pure (c1) rfl ?_)|(refine zY.lent (c1) rfl ?_)|(refine zY.own (c1) ?_)
  all_goals apply hr
  all_goals simp [Try.f41,mbs,show ByteArray.empty = bs [] from rfl]
 subst h1
 by_cases h2 : 1099511627776 <= zk
 ·refine ⟨nilP, 5, nilP_ok, ?_⟩
  unfold nilP zz cf0 Pt.cells
  dsimp only
  refine zG Try.tab Try.mixed Try.func41 rfl rfl Try.ntmps41 (by simp) (by simp) fun Q hr hn=>?_
  repeat' first|(refine hK _ ?_;clear hK)|(refine hK _ _ ?_;clear hK)|(clear hK;refine hK _ ?_;clear hK)|(clear hK;clear hK;refine hK _ ?_;clear hK)|(clear hK;clear hK;clear hK;refine hK _ ?_;clear hK)|(clear hK;clear hK;clear hK;clear hK;refine hK _ ?_;clear hK)|(refine zJ fun K hK=>?_)|((first | refine zH ?_ | refine zN rfl (by kernel_rfl) ?_ | refine zM ?_ | refine zK (by kernel_rfl) ?_);simp only [wJ,wI,strip])|((first | refine wIs fun K hK=>?_ | refine wOs fun K hK=>?_ | refine wQs fun K hK=>?_ | refine zU ?_ | refine zV ?_ | refine zW ?_ | refine zL ?_);simp [h2,show ByteArray.empty = bs [] from rfl])|(refine wIn ?_;refine And.intro (by kernel_rfl) ?_;try simp only [zX])|(first | refine zQ ?_ | refine zS ?_)|((first | refine zI ?_ | refine zO ?_ | refine zP ?_);try simp)|((first | refine zR ?_ | refine wOn ?_ | refine wQn ?_);try simp only [zX])|(refine zZ.pure (c1) rfl ?_)|(refine zZ.lent (c1) rfl ?_)|(refine zT.pure (c1) rfl ?_)|(refine zT.lent (c1) rfl ?_)|(refine zZ.own (c1) ?_)|(refine zY.pure (c1) rfl ?_)|(refine zY.lent (c1) rfl ?_)|(refine zY.own (c1) ?_)
  all_goals apply hr
  all_goals simp [Try.f41,mbs,show ByteArray.empty = bs [] from rfl]
 ·have c2 := put09_con ⟨zp, zd, zv, IntKind.i64.wrap (zk + 1), zo⟩
  refine ⟨putP ⟨zp,zd,zv,IntKind.i64.wrap (zk + 1),zo⟩,0,putP_ok hl,?_⟩
  unfold putP cf0 Pt.cells Zn.c at *
  dsimp only at *
  refine zG Try.tab Try.mixed Try.func41 rfl rfl Try.ntmps41 (by simp) (by simp) fun Q hr hn=>?_
  repeat' first|(refine hK _ ?_;clear hK)|(refine hK _ _ ?_;clear hK)|(clear hK;refine hK _ ?_;clear hK)|(clear hK;clear hK;refine hK _ ?_;clear hK)|(clear hK;clear hK;clear hK;refine hK _ ?_;clear hK)|(clear hK;clear hK;clear hK;clear hK;refine hK _ ?_;clear hK)|(refine zJ fun K hK=>?_)|((first | refine zH ?_ | refine zN rfl (by kernel_rfl) ?_ | refine zM ?_ | refine zK (by kernel_rfl) ?_);simp only [wJ,wI,strip])|((first | refine wIs fun K hK=>?_ | refine wOs fun K hK=>?_ | refine wQs fun K hK=>?_ | refine zU ?_ | refine zV ?_ | refine zW ?_ | refine zL ?_);simp [h2,show ByteArray.empty = bs [] from rfl])|(refine wIn ?_;refine And.intro (by kernel_rfl) ?_;try simp only [zX])|(first | refine zQ ?_ | refine zS ?_)|((first | refine zI ?_ | refine zO ?_ | refine zP ?_);try simp)|((first | refine zR ?_ | refine wOn ?_ | refine wQn ?_);try simp only [zX])|(refine zZ.pure (c1) rfl ?_)|(refine zZ.lent (c1) rfl ?_)|(refine zT.pure (c1) rfl ?_)|(refine zT.lent (c1) rfl ?_)|(refine zZ.own (c1) ?_)|(refine zY.pure (c1) rfl ?_)|(refine zY.lent (c1) rfl ?_)|(refine zY.own (c1) ?_)|(refine zZ.pure (c2) rfl ?_)|(refine zZ.lent (c2) rfl ?_)|(refine zT.pure (c2) rfl ?_)|(refine zT.lent (c2) rfl ?_)|(refine zZ.own (c2) ?_)|(refine zY.pure (c2) rfl ?_)|(refine zY.lent (c2) rfl ?_)|(refine zY.own (c2) ?_)
  all_goals apply hr
  all_goals simp [Try.f41,mbs]
end Go.Proofs.Ytpilcadofjcdoaa
