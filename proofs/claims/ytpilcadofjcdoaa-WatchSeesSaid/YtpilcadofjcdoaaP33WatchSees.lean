/- Texts that the proof needs: WM5 PR6. -/
import Derived.Test.YtpilcadofjcdoaaP29WatchSees
import Derived.Test.YtpilcadofjcdoaaP32WatchSees
import Derived.Test.YtpilcadofjcdoaaP27WatchSees
import Derived.Test.YtpilcadofjcdoaaP31WatchSees
namespace Go.Proofs.Ytpilcadofjcdoaa
set_option linter.unusedSimpArgs false
set_option linter.unusedVariables false
set_option maxRecDepth 8000
open Go Go.Av
attribute [local irreducible] Go.Av.yQ Go.Av.zZ Go.Av.yG Go.Av.zT Go.Av.yH Go.Av.zY Go.Av.Con
theorem open09_con (s : Sv) (n : Int) : zF Try.prog 22 [.p (.agg s.cells), .p (I n)] (.p (B (decide (n ∈ s.ss)))) := by
 obtain ⟨ns,ss,nx,⟨ep,cn,kd,ms⟩,ae,an⟩:=s
 unfold Sv.cells
 dsimp only
 refine zF.lenA ⟨Try.f22,Try.func22,rfl,rfl⟩ 0 1 1 (ints ss) _ rfl rfl fun hls=>?_
 simp only [ints_len] at hls
 refine zG Try.tab Try.mixed Try.func22 rfl rfl Try.ntmps22 (by simp) (by simp) fun Q hr hn=>?_
 repeat' first|(refine hK _ ?_;clear hK)|(refine hK _ _ ?_;clear hK)|(clear hK;refine hK _ ?_;clear hK)|(clear hK;clear hK;refine hK _ ?_;clear hK)|(clear hK;clear hK;clear hK;refine hK _ ?_;clear hK)|(clear hK;clear hK;clear hK;clear hK;refine hK _ ?_;clear hK)|(refine zJ fun K hK=>?_)|((first | refine zH ?_ | refine zN rfl (by kernel_rfl) ?_ | refine zM ?_ | refine zK (by kernel_rfl) ?_);simp only [wJ,wI,strip])|((first | refine wIs fun K hK=>?_ | refine wOs fun K hK=>?_ | refine wQs fun K hK=>?_ | refine zU ?_ | refine zV ?_ | refine zW ?_ | refine zL ?_);simp)|(refine wIn ?_;refine And.intro (by kernel_rfl) ?_;try simp only [zX])|(first | refine zQ ?_ | refine zS ?_)|((first | refine zI ?_ | refine zO ?_ | refine zP ?_);try simp)|((first | refine zR ?_ | refine wOn ?_ | refine wQn ?_);try simp only [zX])
 refine xS (fun N st=>∃ k,k + N = ss.length /\ st.s 1 = .p (I n) /\ st.s 8 = .p (.sl 1 (ints ss)) /\ st.s 9 = .p (I ss.length) /\ st.s 10 = .p (I k) /\ (n ∈ ss ↔ n ∈ ss.drop k)) ss.length ⟨0,by simp⟩ fun K N st hL ⟨k,hk,h1,h8,h9,h10,hi⟩=>?_
 by_cases hlt : k < ss.length
 ·have hw := xY k _ hlt (by omega)
  have he:=ints_get hlt
  rw [List.drop_eq_getElem_cons hlt,List.mem_cons] at hi
  generalize hF : ss[k] = x at *
  by_cases o : x = n
  ·subst o
   rw [decide_eq_true (hi.2 (.inl rfl))] at hr
   repeat' first|(refine hK _ ?_;clear hK)|(refine hK _ _ ?_;clear hK)|(clear hK;refine hK _ ?_;clear hK)|(clear hK;clear hK;refine hK _ ?_;clear hK)|(clear hK;clear hK;clear hK;refine hK _ ?_;clear hK)|(clear hK;clear hK;clear hK;clear hK;refine hK _ ?_;clear hK)|(refine zJ fun K hK=>?_)|((first | refine zH ?_ | refine zN rfl (by kernel_rfl) ?_ | refine zM ?_ | refine zK (by kernel_rfl) ?_);simp only [wJ,wI,strip])|((first | refine wIs fun K hK=>?_ | refine wOs fun K hK=>?_ | refine wQs fun K hK=>?_ | refine zU ?_ | refine zV ?_ | refine zW ?_ | refine zL ?_);simp [h1,h8,h9,h10,hlt,hw,he,hF])|(refine wIn ?_;refine And.intro (by kernel_rfl) ?_;try simp only [zX])|(first | refine zQ ?_ | refine zS ?_)|((first | refine zI ?_ | refine zO ?_ | refine zP ?_);try simp)|((first | refine zR ?_ | refine wOn ?_ | refine wQn ?_);try simp only [zX])
   all_goals apply hr
   all_goals simp [Try.f22]
  ·have o' : (x = n) = False := eq_false o
   have hi' : n ∈ ss ↔ n ∈ ss.drop (k + 1):=hi.trans ⟨fun h=>h.elim (fun h=>absurd h.symm o) id,.inr⟩
   repeat' first|(refine hK _ ?_;clear hK)|(refine hK _ _ ?_;clear hK)|(clear hK;refine hK _ ?_;clear hK)|(clear hK;clear hK;refine hK _ ?_;clear hK)|(clear hK;clear hK;clear hK;refine hK _ ?_;clear hK)|(clear hK;clear hK;clear hK;clear hK;refine hK _ ?_;clear hK)|(refine zJ fun K hK=>?_)|((first | refine zH ?_ | refine zN rfl (by kernel_rfl) ?_ | refine zM ?_ | refine zK (by kernel_rfl) ?_);simp only [wJ,wI,strip])|((first | refine wIs fun K hK=>?_ | refine wOs fun K hK=>?_ | refine wQs fun K hK=>?_ | refine zU ?_ | refine zV ?_ | refine zW ?_ | refine zL ?_);simp [h1,h8,h9,h10,hlt,hw,he,hF,o'])|(refine wIn ?_;refine And.intro (by kernel_rfl) ?_;try simp only [zX])|(first | refine zQ ?_ | refine zS ?_)|((first | refine zI ?_ | refine zO ?_ | refine zP ?_);try simp)|((first | refine zR ?_ | refine wOn ?_ | refine wQn ?_);try simp only [zX])
   refine hL _ (N - 1) (by omega) ⟨k + 1,by omega,?_,?_,?_,?_,hi'⟩
   all_goals simp [h1,h8,h9,h10,hw]
 ·rw [List.drop_of_length_le (by omega)] at hi
  rw [decide_eq_false (fun h=>by simpa using hi.1 h)] at hr
  repeat' first|(refine hK _ ?_;clear hK)|(refine hK _ _ ?_;clear hK)|(clear hK;refine hK _ ?_;clear hK)|(clear hK;clear hK;refine hK _ ?_;clear hK)|(clear hK;clear hK;clear hK;refine hK _ ?_;clear hK)|(clear hK;clear hK;clear hK;clear hK;refine hK _ ?_;clear hK)|(refine zJ fun K hK=>?_)|((first | refine zH ?_ | refine zN rfl (by kernel_rfl) ?_ | refine zM ?_ | refine zK (by kernel_rfl) ?_);simp only [wJ,wI,strip])|((first | refine wIs fun K hK=>?_ | refine wOs fun K hK=>?_ | refine wQs fun K hK=>?_ | refine zU ?_ | refine zV ?_ | refine zW ?_ | refine zL ?_);simp [h1,h8,h9,h10,hlt])|(refine wIn ?_;refine And.intro (by kernel_rfl) ?_;try simp only [zX])|(first | refine zQ ?_ | refine zS ?_)|((first | refine zI ?_ | refine zO ?_ | refine zP ?_);try simp)|((first | refine zR ?_ | refine wOn ?_ | refine wQn ?_);try simp only [zX])
  all_goals apply hr
  all_goals simp [Try.f22]
structure Rp where
 (k s x : Int)
 (ops : List Oq)
 (d : Dl)
 (we wn : Int)
def Rp.cells (r : Rp) : List PV := [I r.k, I r.s, I r.x, .sl 6 (oqs r.ops), I r.d.kind, .sl 4 (mbs r.d.put), .sl 1 (ints r.d.drop), I r.we, I r.wn]
def opnP (ses : Int) : Pt := ⟨3, zz, ses, cf0⟩
def cfgP (c : Cf) : Pt := ⟨5, zz, 0, c⟩
theorem fine_len : ∀ (l : List Mb) (p : Int), fine p l = true -> -1 <= p -> (l.length : Int) <= 15 - p \/ l = []
 | [],_,_,_=>.inr rfl
 | m :: l, p, h, hp => by
  unfold fine at h
  simp only [Bool.and_eq_true,decide_eq_true_eq] at h
  have h1:=h.1.1.1
  have h2:=h.1.2
  rcases fine_len l m.i h.2 (by omega) with g | g
  ·left;rw [List.length_cons];omega
  ·left;subst g;simp;omega
theorem check_len {c : Cf} (h : check c = 0) : c.ms.length <= 16 := by
 unfold check at h
 split at h
 ·split at h
  ·rename_i hf
   rcases fine_len c.ms (-1) hf (by omega) with g | g
   ·omega
   ·rw [g];simp
  ·exact absurd h (by decide)
 ·exact absurd h (by decide)
theorem app06_len (c : Cf) (d : Dl) (e n : Int) : (app06 c d e n).ms.length <= 16 := by
 unfold app06
 split
 ·rename_i h
  unfold appE at h
  split at h
  ·split at h
   ·exact check_len h
   ·contradiction
  ·exact absurd h (by decide)
 ·simp
def txE (e n ses x er : Int) : Tx := ⟨e, n, ses, x, er, 0, [], []⟩
set_option maxHeartbeats 16000000 in
theorem make_ex (s : Sv) (r : Rp) (e n : Int) (hs : SvOk s 1000) (hl : s.ns.length <= 200) (hc : s.c.ms.length <= 16) (ho : ∀ o ∈ r.ops, OqOk o) (hol : r.ops.length <= 100) (hp : r.d.put.length <= 4398046510976) (hd : r.d.drop.length <= 4611686018427387904) :
 ∃ t : Tx,PsOk t.ps /\ t.ps.length <= 900 /\ zF Try.prog 7 [.p (.agg s.cells),.p (.agg r.cells),.p (.agg [I e,I n])] (.p (.agg t.cells)):=by
 obtain ⟨F,hF⟩:=opF_ex r.s
 obtain ⟨G,hG⟩:=buF_ex
 have c1:=open09_con s r.s
 have c2:=apply06_con s.c r.d e n (by omega) hp hd
 have c3:=ops_con s e n r.s r.x r.ops hF hs hol ho
 have c4:=closing_con s e n r.s r.x hG hs hl
 obtain ⟨o1,o2⟩:=opsM_ok hF r.ops 0 s [] [] 1000 hs (by omega) ho yZ
 obtain ⟨k1,k2⟩:=clsM_ok hG r.s s.ns s [] hs.l hs.l yZ
 have hal:=app06_len s.c r.d e n
 simp only [List.length_nil] at o2 k2
 have o2' : (opsM F r.ops 0 s [] []).2.2.2.length <= 900:=by omega
 have k2' : (clsM G r.s s.ns s []).2.length <= 900:=by omega
 clear hs ho hp hd hc o2 k2 hF hG
 generalize opsM F r.ops 0 s [] [] = RO at *
 generalize clsM G r.s s.ns s [] = RC at *
 generalize appE s.c r.d e n = ae at *
 generalize app06 s.c r.d e n = C at *
 obtain ⟨ns,ss,nx,⟨ep,cn,kd,ms⟩,sae,san⟩:=s
 obtain ⟨k,rs,x,ops,⟨dk,put,drop⟩,we,wn⟩:=r
 obtain ⟨aep,acn,akd,ams⟩:=C
 dsimp only at *
 have z0 : ∀ er,PsOk (txE e n rs x er).ps /\ (txE e n rs x er).ps.length <= 900:=fun er=>⟨yZ,by simp [txE]⟩
 by_cases hk2 : k = 2
 ·subst hk2
  by_cases h1 : 20 <= ss.length
  ·have h1' : (20 : Int) <= ss.length := by omega
   refine ⟨txE e n rs x 8,(z0 8).1,(z0 8).2,?_⟩
   unfold txE Sv.cells Rp.cells Tx.cells
   dsimp only
   refine zG Try.tab Try.mixed Try.func7 rfl rfl Try.ntmps7 (by simp) (by simp) fun Q hr hn=>?_
   repeat' first|(refine hK _ ?_;clear hK)|(refine hK _ _ ?_;clear hK)|(clear hK;refine hK _ ?_;clear hK)|(clear hK;clear hK;refine hK _ ?_;clear hK)|(clear hK;clear hK;clear hK;refine hK _ ?_;clear hK)|(clear hK;clear hK;clear hK;clear hK;refine hK _ ?_;clear hK)|(refine zJ fun K hK=>?_)|((first | refine zH ?_ | refine zN rfl (by kernel_rfl) ?_ | refine zM ?_ | refine zK (by kernel_rfl) ?_);simp only [wJ,wI,strip])|((first | refine wIs fun K hK=>?_ | refine wOs fun K hK=>?_ | refine wQs fun K hK=>?_ | refine zU ?_ | refine zV ?_ | refine zW ?_ | refine zL ?_);simp [h1,h1',show ByteArray.empty = bs [] from rfl])|(refine wIn ?_;refine And.intro (by kernel_rfl) ?_;try simp only [zX])|(first | refine zQ ?_ | refine zS ?_)|((first | refine zI ?_ | refine zO ?_ | refine zP ?_);try simp)|((first | refine zR ?_ | refine wOn ?_ | refine wQn ?_);try simp only [zX])
   all_goals apply hr
   all_goals simp [Try.f7,pts,show ByteArray.empty = bs [] from rfl]
  have h1' : ¬ (20 : Int) <= ss.length:=by omega
  by_cases h2 : 1099511627776 <= nx
  ·refine ⟨txE e n rs x 8, (z0 8).1, (z0 8).2, ?_⟩
   unfold txE Sv.cells Rp.cells Tx.cells
   dsimp only
   refine zG Try.tab Try.mixed Try.func7 rfl rfl Try.ntmps7 (by simp) (by simp) fun Q hr hn=>?_
   repeat' first|(refine hK _ ?_;clear hK)|(refine hK _ _ ?_;clear hK)|(clear hK;refine hK _ ?_;clear hK)|(clear hK;clear hK;refine hK _ ?_;clear hK)|(clear hK;clear hK;clear hK;refine hK _ ?_;clear hK)|(clear hK;clear hK;clear hK;clear hK;refine hK _ ?_;clear hK)|(refine zJ fun K hK=>?_)|((first | refine zH ?_ | refine zN rfl (by kernel_rfl) ?_ | refine zM ?_ | refine zK (by kernel_rfl) ?_);simp only [wJ,wI,strip])|((first | refine wIs fun K hK=>?_ | refine wOs fun K hK=>?_ | refine wQs fun K hK=>?_ | refine zU ?_ | refine zV ?_ | refine zW ?_ | refine zL ?_);simp [h1,h1',h2,show ByteArray.empty = bs [] from rfl])|(refine wIn ?_;refine And.intro (by kernel_rfl) ?_;try simp only [zX])|(first | refine zQ ?_ | refine zS ?_)|((first | refine zI ?_ | refine zO ?_ | refine zP ?_);try simp)|((first | refine zR ?_ | refine wOn ?_ | refine wQn ?_);try simp only [zX])
   all_goals apply hr
   all_goals simp [Try.f7,pts,show ByteArray.empty = bs [] from rfl]
  ·refine ⟨⟨e, n, nx, x, 0, 0, [], [opnP nx]⟩, ps1_ok ⟨zz_long, Nat.zero_le _⟩, by simp, ?_⟩
   unfold Sv.cells Rp.cells Tx.cells pts opnP zz cf0
   simp only [wJ,wI]
   unfold Pt.cells
   dsimp only
   refine zG Try.tab Try.mixed Try.func7 rfl rfl Try.ntmps7 (by simp) (by simp) fun Q hr hn=>?_
   repeat' first|(refine hK _ ?_;clear hK)|(refine hK _ _ ?_;clear hK)|(clear hK;refine hK _ ?_;clear hK)|(clear hK;clear hK;refine hK _ ?_;clear hK)|(clear hK;clear hK;clear hK;refine hK _ ?_;clear hK)|(clear hK;clear hK;clear hK;clear hK;refine hK _ ?_;clear hK)|(refine zJ fun K hK=>?_)|((first | refine zH ?_ | refine zN rfl (by kernel_rfl) ?_ | refine zM ?_ | refine zK (by kernel_rfl) ?_);simp only [wJ,wI,strip])|((first | refine wIs fun K hK=>?_ | refine wOs fun K hK=>?_ | refine wQs fun K hK=>?_ | refine zU ?_ | refine zV ?_ | refine zW ?_ | refine zL ?_);simp [h1,h1',h2,show ByteArray.empty = bs [] from rfl])|(refine wIn ?_;refine And.intro (by kernel_rfl) ?_;try simp only [zX])|(first | refine zQ ?_ | refine zS ?_)|((first | refine zI ?_ | refine zO ?_ | refine zP ?_);try simp)|((first | refine zR ?_ | refine wOn ?_ | refine wQn ?_);try simp only [zX])
   all_goals apply hr
   all_goals simp [Try.f7,mbs,show ByteArray.empty = bs [] from rfl]
 have f2:=eq_false hk2
 by_cases hk : k = 1 \/ k = 3 \/ k = 4
 case neg =>
  have f1 : (k = 1) = False:=eq_false fun h=>hk (.inl h)
  have f3 : (k = 3) = False:=eq_false fun h=>hk (.inr (.inl h))
  have f4 : (k = 4) = False:=eq_false fun h=>hk (.inr (.inr h))
  refine ⟨txE e n rs x 1,(z0 1).1,(z0 1).2,?_⟩
  unfold txE Sv.cells Rp.cells Tx.cells
  dsimp only
  refine zG Try.tab Try.mixed Try.func7 rfl rfl Try.ntmps7 (by simp) (by simp) fun Q hr hn=>?_
  repeat' first|(refine hK _ ?_;clear hK)|(refine hK _ _ ?_;clear hK)|(clear hK;refine hK _ ?_;clear hK)|(clear hK;clear hK;refine hK _ ?_;clear hK)|(clear hK;clear hK;clear hK;refine hK _ ?_;clear hK)|(clear hK;clear hK;clear hK;clear hK;refine hK _ ?_;clear hK)|(refine zJ fun K hK=>?_)|((first | refine zH ?_ | refine zN rfl (by kernel_rfl) ?_ | refine zM ?_ | refine zK (by kernel_rfl) ?_);simp only [wJ,wI,strip])|((first | refine wIs fun K hK=>?_ | refine wOs fun K hK=>?_ | refine wQs fun K hK=>?_ | refine zU ?_ | refine zV ?_ | refine zW ?_ | refine zL ?_);simp [f1,f2,f3,f4,show ByteArray.empty = bs [] from rfl])|(refine wIn ?_;refine And.intro (by kernel_rfl) ?_;try simp only [zX])|(first | refine zQ ?_ | refine zS ?_)|((first | refine zI ?_ | refine zO ?_ | refine zP ?_);try simp)|((first | refine zR ?_ | refine wOn ?_ | refine wQn ?_);try simp only [zX])
  all_goals apply hr
  all_goals simp [Try.f7,pts,show ByteArray.empty = bs [] from rfl]
 by_cases h1 : rs ∈ ss
 case neg =>
  rw [decide_eq_false h1] at c1
  refine ⟨txE e n rs x 13,(z0 13).1,(z0 13).2,?_⟩
  unfold txE Tx.cells
  unfold Sv.cells Rp.cells at *
  dsimp only at *
  rcases hk with rfl | rfl | rfl
  all_goals
   refine zG Try.tab Try.mixed Try.func7 rfl rfl Try.ntmps7 (by simp) (by simp) fun Q hr hn=>?_
   repeat' first|(refine hK _ ?_;clear hK)|(refine hK _ _ ?_;clear hK)|(clear hK;refine hK _ ?_;clear hK)|(clear hK;clear hK;refine hK _ ?_;clear hK)|(clear hK;clear hK;clear hK;refine hK _ ?_;clear hK)|(clear hK;clear hK;clear hK;clear hK;refine hK _ ?_;clear hK)|(refine zJ fun K hK=>?_)|((first | refine zH ?_ | refine zN rfl (by kernel_rfl) ?_ | refine zM ?_ | refine zK (by kernel_rfl) ?_);simp only [wJ,wI,strip])|((first | refine wIs fun K hK=>?_ | refine wOs fun K hK=>?_ | refine wQs fun K hK=>?_ | refine zU ?_ | refine zV ?_ | refine zW ?_ | refine zL ?_);simp [show ByteArray.empty = bs [] from rfl])|(refine wIn ?_;refine And.intro (by kernel_rfl) ?_;try simp only [zX])|(first | refine zQ ?_ | refine zS ?_)|((first | refine zI ?_ | refine zO ?_ | refine zP ?_);try simp)|((first | refine zR ?_ | refine wOn ?_ | refine wQn ?_);try simp only [zX])|(refine zZ.pure (c1) rfl ?_)|(refine zZ.lent (c1) rfl ?_)|(refine zT.pure (c1) rfl ?_)|(refine zT.lent (c1) rfl ?_)|(refine zZ.own (c1) ?_)|(refine zY.pure (c1) rfl ?_)|(refine zY.lent (c1) rfl ?_)|(refine zY.own (c1) ?_)
   all_goals apply hr
   all_goals simp [Try.f7,pts,show ByteArray.empty = bs [] from rfl]
 rw [decide_eq_true h1] at c1
 rcases hk with rfl | rfl | rfl
 ·by_cases h2 : ops.length = 0
  ·refine ⟨txE e n rs x 1, (z0 1).1, (z0 1).2, ?_⟩
   have h2' : ((ops.length : Int) < 1) = True:=eq_true (by omega)
   have h2'' : (ops.length < 1) = True:=eq_true (by omega)
   unfold txE Tx.cells
   unfold Sv.cells Rp.cells at *
   dsimp only at *
   refine zG Try.tab Try.mixed Try.func7 rfl rfl Try.ntmps7 (by simp) (by simp) fun Q hr hn=>?_
   repeat' first|(refine hK _ ?_;clear hK)|(refine hK _ _ ?_;clear hK)|(clear hK;refine hK _ ?_;clear hK)|(clear hK;clear hK;refine hK _ ?_;clear hK)|(clear hK;clear hK;clear hK;refine hK _ ?_;clear hK)|(clear hK;clear hK;clear hK;clear hK;refine hK _ ?_;clear hK)|(refine zJ fun K hK=>?_)|((first | refine zH ?_ | refine zN rfl (by kernel_rfl) ?_ | refine zM ?_ | refine zK (by kernel_rfl) ?_);simp only [wJ,wI,strip])|((first | refine wIs fun K hK=>?_ | refine wOs fun K hK=>?_ | refine wQs fun K hK=>?_ | refine zU ?_ | refine zV ?_ | refine zW ?_ | refine zL ?_);simp [h2,h2',h2'',show ByteArray.empty = bs [] from rfl])|(refine wIn ?_;refine And.intro (by kernel_rfl) ?_;try simp only [zX])|(first | refine zQ ?_ | refine zS ?_)|((first | refine zI ?_ | refine zO ?_ | refine zP ?_);try simp)|((first | refine zR ?_ | refine wOn ?_ | refine wQn ?_);try simp only [zX])|(refine zZ.pure (c1) rfl ?_)|(refine zZ.lent (c1) rfl ?_)|(refine zT.pure (c1) rfl ?_)|(refine zT.lent (c1) rfl ?_)|(refine zZ.own (c1) ?_)|(refine zY.pure (c1) rfl ?_)|(refine zY.lent (c1) rfl ?_)|(refine zY.own (c1) ?_)
   all_goals apply hr
   all_goals simp [Try.f7,pts,show ByteArray.empty = bs [] from rfl]
  have h2' : ¬ ((ops.length : Int) < 1):=by omega
  by_cases h3 : 8 < ops.length
  ·refine ⟨txE e n rs x 1, (z0 1).1, (z0 1).2, ?_⟩
   have h3' : (8 : Int) < ops.length:=by omega
   unfold txE Tx.cells
   unfold Sv.cells Rp.cells at *
   dsimp only at *
   refine zG Try.tab Try.mixed Try.func7 rfl rfl Try.ntmps7 (by simp) (by simp) fun Q hr hn=>?_
   repeat' first|(refine hK _ ?_;clear hK)|(refine hK _ _ ?_;clear hK)|(clear hK;refine hK _ ?_;clear hK)|(clear hK;clear hK;refine hK _ ?_;clear hK)|(clear hK;clear hK;clear hK;refine hK _ ?_;clear hK)|(clear hK;clear hK;clear hK;clear hK;refine hK _ ?_;clear hK)|(refine zJ fun K hK=>?_)|((first | refine zH ?_ | refine zN rfl (by kernel_rfl) ?_ | refine zM ?_ | refine zK (by kernel_rfl) ?_);simp only [wJ,wI,strip])|((first | refine wIs fun K hK=>?_ | refine wOs fun K hK=>?_ | refine wQs fun K hK=>?_ | refine zU ?_ | refine zV ?_ | refine zW ?_ | refine zL ?_);simp [h2,h2',h3,h3',show ByteArray.empty = bs [] from rfl])|(refine wIn ?_;refine And.intro (by kernel_rfl) ?_;try simp only [zX])|(first | refine zQ ?_ | refine zS ?_)|((first | refine zI ?_ | refine zO ?_ | refine zP ?_);try simp)|((first | refine zR ?_ | refine wOn ?_ | refine wQn ?_);try simp only [zX])|(refine zZ.pure (c1) rfl ?_)|(refine zZ.lent (c1) rfl ?_)|(refine zT.pure (c1) rfl ?_)|(refine zT.lent (c1) rfl ?_)|(refine zZ.own (c1) ?_)|(refine zY.pure (c1) rfl ?_)|(refine zY.lent (c1) rfl ?_)|(refine zY.own (c1) ?_)
   all_goals apply hr
   all_goals simp [Try.f7,pts,show ByteArray.empty = bs [] from rfl]
  ·refine ⟨⟨e, n, rs, x, RO.1, RO.2.1, RO.2.2.1, RO.2.2.2⟩, o1, o2', ?_⟩
   have h3' : ¬ (8 : Int) < ops.length:=by omega
   unfold Tx.cells at *
   unfold Sv.cells Rp.cells at *
   dsimp only at *
   refine zG Try.tab Try.mixed Try.func7 rfl rfl Try.ntmps7 (by simp) (by simp) fun Q hr hn=>?_
   repeat' first|(refine hK _ ?_;clear hK)|(refine hK _ _ ?_;clear hK)|(clear hK;refine hK _ ?_;clear hK)|(clear hK;clear hK;refine hK _ ?_;clear hK)|(clear hK;clear hK;clear hK;refine hK _ ?_;clear hK)|(clear hK;clear hK;clear hK;clear hK;refine hK _ ?_;clear hK)|(refine zJ fun K hK=>?_)|((first | refine zH ?_ | refine zN rfl (by kernel_rfl) ?_ | refine zM ?_ | refine zK (by kernel_rfl) ?_);simp only [wJ,wI,strip])|((first | refine wIs fun K hK=>?_ | refine wOs fun K hK=>?_ | refine wQs fun K hK=>?_ | refine zU ?_ | refine zV ?_ | refine zW ?_ | refine zL ?_);simp [h2,h2',h3,h3',show ByteArray.empty = bs [] from rfl])|(refine wIn ?_;refine And.intro (by kernel_rfl) ?_;try simp only [zX])|(first | refine zQ ?_ | refine zS ?_)|((first | refine zI ?_ | refine zO ?_ | refine zP ?_);try simp)|((first | refine zR ?_ | refine wOn ?_ | refine wQn ?_);try simp only [zX])|(refine zZ.pure (c1) rfl ?_)|(refine zZ.lent (c1) rfl ?_)|(refine zT.pure (c1) rfl ?_)|(refine zT.lent (c1) rfl ?_)|(refine zZ.own (c1) ?_)|(refine zY.pure (c1) rfl ?_)|(refine zY.lent (c1) rfl ?_)|(refine zY.own (c1) ?_)|(refine zZ.pure (c3) rfl ?_)|(refine zZ.lent (c3) rfl ?_)|(refine zT.pure (c3) rfl ?_)|(refine zT.lent (c3) rfl ?_)|(refine zZ.own (c3) ?_)|(refine zY.pure (c3) rfl ?_)|(refine zY.lent (c3) rfl ?_)|(refine zY.own (c3) ?_)
   all_goals apply hr
   all_goals simp [Try.f7,show ByteArray.empty = bs [] from rfl]
 ·refine ⟨⟨e, n, rs, x, RC.1, 0, [], RC.2⟩, k1, k2', ?_⟩
  unfold Tx.cells at *
  unfold Sv.cells Rp.cells at *
  dsimp only at *
  refine zG Try.tab Try.mixed Try.func7 rfl rfl Try.ntmps7 (by simp) (by simp) fun Q hr hn=>?_
  repeat' first|(refine hK _ ?_;clear hK)|(refine hK _ _ ?_;clear hK)|(clear hK;refine hK _ ?_;clear hK)|(clear hK;clear hK;refine hK _ ?_;clear hK)|(clear hK;clear hK;clear hK;refine hK _ ?_;clear hK)|(clear hK;clear hK;clear hK;clear hK;refine hK _ ?_;clear hK)|(refine zJ fun K hK=>?_)|((first | refine zH ?_ | refine zN rfl (by kernel_rfl) ?_ | refine zM ?_ | refine zK (by kernel_rfl) ?_);simp only [wJ,wI,strip])|((first | refine wIs fun K hK=>?_ | refine wOs fun K hK=>?_ | refine wQs fun K hK=>?_ | refine zU ?_ | refine zV ?_ | refine zW ?_ | refine zL ?_);simp [show ByteArray.empty = bs [] from rfl])|(refine wIn ?_;refine And.intro (by kernel_rfl) ?_;try simp only [zX])|(first | refine zQ ?_ | refine zS ?_)|((first | refine zI ?_ | refine zO ?_ | refine zP ?_);try simp)|((first | refine zR ?_ | refine wOn ?_ | refine wQn ?_);try simp only [zX])|(refine zZ.pure (c1) rfl ?_)|(refine zZ.lent (c1) rfl ?_)|(refine zT.pure (c1) rfl ?_)|(refine zT.lent (c1) rfl ?_)|(refine zZ.own (c1) ?_)|(refine zY.pure (c1) rfl ?_)|(refine zY.lent (c1) rfl ?_)|(refine zY.own (c1) ?_)|(refine zZ.pure (c4) rfl ?_)|(refine zZ.lent (c4) rfl ?_)|(refine zT.pure (c4) rfl ?_)|(refine zT.lent (c4) rfl ?_)|(refine zZ.own (c4) ?_)|(refine zY.pure (c4) rfl ?_)|(refine zY.lent (c4) rfl ?_)|(refine zY.own (c4) ?_)
  all_goals apply hr
  all_goals simp [Try.f7,show ByteArray.empty = bs [] from rfl]
 ·by_cases h2 : we = ep /\ wn = cn
  case neg =>
   refine ⟨txE e n rs x 10,(z0 10).1,(z0 10).2,?_⟩
   unfold txE Tx.cells
   unfold Sv.cells Rp.cells at *
   dsimp only at *
   by_cases h3 : we = ep
   ·have h3' := eq_true h3
    have h4' : (wn = cn) = False:=eq_false fun h=>h2 ⟨h3,h⟩
    refine zG Try.tab Try.mixed Try.func7 rfl rfl Try.ntmps7 (by simp) (by simp) fun Q hr hn=>?_
    repeat' first|(refine hK _ ?_;clear hK)|(refine hK _ _ ?_;clear hK)|(clear hK;refine hK _ ?_;clear hK)|(clear hK;clear hK;refine hK _ ?_;clear hK)|(clear hK;clear hK;clear hK;refine hK _ ?_;clear hK)|(clear hK;clear hK;clear hK;clear hK;refine hK _ ?_;clear hK)|(refine zJ fun K hK=>?_)|((first | refine zH ?_ | refine zN rfl (by kernel_rfl) ?_ | refine zM ?_ | refine zK (by kernel_rfl) ?_);simp only [wJ,wI,strip])|((first | refine wIs fun K hK=>?_ | refine wOs fun K hK=>?_ | refine wQs fun K hK=>?_ | refine zU ?_ | refine zV ?_ | refine zW ?_ | refine zL ?_);simp [h3',h4',show ByteArray.empty = bs [] from rfl])|(refine wIn ?_;refine And.intro (by kernel_rfl) ?_;try simp only [zX])|(first | refine zQ ?_ | refine zS ?_)|((first | refine zI ?_ | refine zO ?_ | refine zP ?_);try simp)|((first | refine zR ?_ | refine wOn ?_ | refine wQn ?_);try simp only [zX])|(refine zZ.pure (c1) rfl ?_)|(refine zZ.lent (c1) rfl ?_)|(refine zT.pure (c1) rfl ?_)|(refine zT.lent (c1) rfl ?_)|(refine zZ.own (c1) ?_)|(refine zY.pure (c1) rfl ?_)|(refine zY.lent (c1) rfl ?_)|(refine zY.own (c1) ?_)
    all_goals apply hr
    all_goals simp [Try.f7,pts,show ByteArray.empty = bs [] from rfl]
   ·have h3' := eq_false h3
    refine zG Try.tab Try.mixed Try.func7 rfl rfl Try.ntmps7 (by simp) (by simp) fun Q hr hn=>?_
    repeat' first|(refine hK _ ?_;clear hK)|(refine hK _ _ ?_;clear hK)|(clear hK;refine hK _ ?_;clear hK)|(clear hK;clear hK;refine hK _ ?_;clear hK)|(clear hK;clear hK;clear hK;refine hK _ ?_;clear hK)|(clear hK;clear hK;clear hK;clear hK;refine hK _ ?_;clear hK)|(refine zJ fun K hK=>?_)|((first | refine zH ?_ | refine zN rfl (by kernel_rfl) ?_ | refine zM ?_ | refine zK (by kernel_rfl) ?_);simp only [wJ,wI,strip])|((first | refine wIs fun K hK=>?_ | refine wOs fun K hK=>?_ | refine wQs fun K hK=>?_ | refine zU ?_ | refine zV ?_ | refine zW ?_ | refine zL ?_);simp [h3',show ByteArray.empty = bs [] from rfl])|(refine wIn ?_;refine And.intro (by kernel_rfl) ?_;try simp only [zX])|(first | refine zQ ?_ | refine zS ?_)|((first | refine zI ?_ | refine zO ?_ | refine zP ?_);try simp)|((first | refine zR ?_ | refine wOn ?_ | refine wQn ?_);try simp only [zX])|(refine zZ.pure (c1) rfl ?_)|(refine zZ.lent (c1) rfl ?_)|(refine zT.pure (c1) rfl ?_)|(refine zT.lent (c1) rfl ?_)|(refine zZ.own (c1) ?_)|(refine zY.pure (c1) rfl ?_)|(refine zY.lent (c1) rfl ?_)|(refine zY.own (c1) ?_)
    all_goals apply hr
    all_goals simp [Try.f7,pts,show ByteArray.empty = bs [] from rfl]
  obtain ⟨rfl,rfl⟩:=h2
  by_cases h5 : ae = 0
  ·subst h5
   refine ⟨⟨e,n,rs,x,0,0,[],[cfgP ⟨aep,acn,akd,ams⟩]⟩,ps1_ok ⟨zz_long,by show ams.length <= _;omega⟩,by simp,?_⟩
   unfold Tx.cells pts cfgP zz
   simp only [wJ,wI]
   unfold Pt.cells
   unfold Sv.cells Rp.cells Cf.cells Dl.cells at *
   dsimp only at *
   refine zG Try.tab Try.mixed Try.func7 rfl rfl Try.ntmps7 (by simp) (by simp) fun Q hr hn=>?_
   repeat' first|(refine hK _ ?_;clear hK)|(refine hK _ _ ?_;clear hK)|(clear hK;refine hK _ ?_;clear hK)|(clear hK;clear hK;refine hK _ ?_;clear hK)|(clear hK;clear hK;clear hK;refine hK _ ?_;clear hK)|(clear hK;clear hK;clear hK;clear hK;refine hK _ ?_;clear hK)|(refine zJ fun K hK=>?_)|((first | refine zH ?_ | refine zN rfl (by kernel_rfl) ?_ | refine zM ?_ | refine zK (by kernel_rfl) ?_);simp only [wJ,wI,strip])|((first | refine wIs fun K hK=>?_ | refine wOs fun K hK=>?_ | refine wQs fun K hK=>?_ | refine zU ?_ | refine zV ?_ | refine zW ?_ | refine zL ?_);simp [show ByteArray.empty = bs [] from rfl])|(refine wIn ?_;refine And.intro (by kernel_rfl) ?_;try simp only [zX])|(first | refine zQ ?_ | refine zS ?_)|((first | refine zI ?_ | refine zO ?_ | refine zP ?_);try simp)|((first | refine zR ?_ | refine wOn ?_ | refine wQn ?_);try simp only [zX])|(refine zZ.pure (c1) rfl ?_)|(refine zZ.lent (c1) rfl ?_)|(refine zT.pure (c1) rfl ?_)|(refine zT.lent (c1) rfl ?_)|(refine zZ.own (c1) ?_)|(refine zY.pure (c1) rfl ?_)|(refine zY.lent (c1) rfl ?_)|(refine zY.own (c1) ?_)|(refine zZ.pure (c2) rfl ?_)|(refine zZ.lent (c2) rfl ?_)|(refine zT.pure (c2) rfl ?_)|(refine zT.lent (c2) rfl ?_)|(refine zZ.own (c2) ?_)|(refine zY.pure (c2) rfl ?_)|(refine zY.lent (c2) rfl ?_)|(refine zY.own (c2) ?_)
   all_goals apply hr
   all_goals simp [Try.f7,mbs,show ByteArray.empty = bs [] from rfl]
  ·have h5' := eq_false h5
   refine ⟨txE e n rs x ae,(z0 ae).1,(z0 ae).2,?_⟩
   unfold txE Tx.cells
   unfold Sv.cells Rp.cells Cf.cells Dl.cells at *
   dsimp only at *
   refine zG Try.tab Try.mixed Try.func7 rfl rfl Try.ntmps7 (by simp) (by simp) fun Q hr hn=>?_
   repeat' first|(refine hK _ ?_;clear hK)|(refine hK _ _ ?_;clear hK)|(clear hK;refine hK _ ?_;clear hK)|(clear hK;clear hK;refine hK _ ?_;clear hK)|(clear hK;clear hK;clear hK;refine hK _ ?_;clear hK)|(clear hK;clear hK;clear hK;clear hK;refine hK _ ?_;clear hK)|(refine zJ fun K hK=>?_)|((first | refine zH ?_ | refine zN rfl (by kernel_rfl) ?_ | refine zM ?_ | refine zK (by kernel_rfl) ?_);simp only [wJ,wI,strip])|((first | refine wIs fun K hK=>?_ | refine wOs fun K hK=>?_ | refine wQs fun K hK=>?_ | refine zU ?_ | refine zV ?_ | refine zW ?_ | refine zL ?_);simp [h5',show ByteArray.empty = bs [] from rfl])|(refine wIn ?_;refine And.intro (by kernel_rfl) ?_;try simp only [zX])|(first | refine zQ ?_ | refine zS ?_)|((first | refine zI ?_ | refine zO ?_ | refine zP ?_);try simp)|((first | refine zR ?_ | refine wOn ?_ | refine wQn ?_);try simp only [zX])|(refine zZ.pure (c1) rfl ?_)|(refine zZ.lent (c1) rfl ?_)|(refine zT.pure (c1) rfl ?_)|(refine zT.lent (c1) rfl ?_)|(refine zZ.own (c1) ?_)|(refine zY.pure (c1) rfl ?_)|(refine zY.lent (c1) rfl ?_)|(refine zY.own (c1) ?_)|(refine zZ.pure (c2) rfl ?_)|(refine zZ.lent (c2) rfl ?_)|(refine zT.pure (c2) rfl ?_)|(refine zT.lent (c2) rfl ?_)|(refine zZ.own (c2) ?_)|(refine zY.pure (c2) rfl ?_)|(refine zY.lent (c2) rfl ?_)|(refine zY.own (c2) ?_)
   all_goals apply hr
   all_goals simp [Try.f7,pts,show ByteArray.empty = bs [] from rfl]
def rsS (nx : Int) (p : Int) : List Int -> Bool
 | []=>true
 | n :: l=>decide (1 <= n /\ n < nx /\ p < n) && rsS nx n l
def prevN (l : List Int) (k : Nat) : Int := if h : 0 < k /\ k <= l.length then l[k - 1]'(by omega) else 0
theorem prevN_succ (l : List Int) (k : Nat) (h : k < l.length) : prevN l (k + 1) = l[k] := by
 unfold prevN;rw [dif_pos ⟨by omega,by omega⟩];rfl
theorem prevN_pos (l : List Int) (k : Nat) (h0 : 0 < k) (h : k < l.length) : prevN l k = l[k - 1]'(by omega) := by
 unfold prevN;rw [dif_pos ⟨by omega,by omega⟩]
def rgtS (s : Sv) : Bool := tre s.ns && (decide (check s.c = 0 /\ 1 <= s.nx /\ s.nx <= 1099511627776 /\ s.ss.length <= 20) && rsS s.nx 0 s.ss)
set_option maxHeartbeats 4000000 in
theorem rightP09_con (s : Sv) (hz : ∀ z ∈ s.ns, long z) (hm : s.c.ms.length <= 9223372036854775807) : zF Try.prog 4 [.p (.agg s.cells)] (.p (B (rgtS s))) := by
 have c1:=treeR_con s.ns hz
 have c2:=check04u_con s.c
 obtain ⟨ns,ss,nx,⟨ep,n,kd,ms⟩,ae,an⟩:=s
 unfold rgtS
 unfold Sv.cells Cf.cells at *
 dsimp only at *
 generalize check ⟨ep,n,kd,ms⟩ = ce at *
 generalize zns ns = X at *
 cases ht : tre ns with
 | false =>
  rw [ht] at c1
  rw [Bool.false_and]
  refine zG Try.tab Try.mixed Try.func4 rfl rfl Try.ntmps4 (by simp) (by simp) fun Q hr hn=>?_
  repeat' first|(refine hK _ ?_;clear hK)|(refine hK _ _ ?_;clear hK)|(clear hK;refine hK _ ?_;clear hK)|(clear hK;clear hK;refine hK _ ?_;clear hK)|(clear hK;clear hK;clear hK;refine hK _ ?_;clear hK)|(clear hK;clear hK;clear hK;clear hK;refine hK _ ?_;clear hK)|(refine zJ fun K hK=>?_)|((first | refine zH ?_ | refine zN rfl (by kernel_rfl) ?_ | refine zM ?_ | refine zK (by kernel_rfl) ?_);simp only [wJ,wI,strip])|((first | refine wIs fun K hK=>?_ | refine wOs fun K hK=>?_ | refine wQs fun K hK=>?_ | refine zU ?_ | refine zV ?_ | refine zW ?_ | refine zL ?_);simp)|(refine wIn ?_;refine And.intro (by kernel_rfl) ?_;try simp only [zX])|(first | refine zQ ?_ | refine zS ?_)|((first | refine zI ?_ | refine zO ?_ | refine zP ?_);try simp)|((first | refine zR ?_ | refine wOn ?_ | refine wQn ?_);try simp only [zX])|(refine zZ.pure (c1) rfl ?_)|(refine zZ.lent (c1) rfl ?_)|(refine zT.pure (c1) rfl ?_)|(refine zT.lent (c1) rfl ?_)|(refine zZ.own (c1) ?_)|(refine zY.pure (c1) rfl ?_)|(refine zY.lent (c1) rfl ?_)|(refine zY.own (c1) ?_)
  all_goals apply hr
  all_goals simp [Try.f4]
 | true =>
 rw [ht] at c1
 rw [Bool.true_and]
 by_cases h1 : ce = 0
 case neg =>
  rw [decide_eq_false (fun h=>h1 h.1),Bool.false_and]
  have h1' : (ce = 0) = False:=eq_false h1
  refine zG Try.tab Try.mixed Try.func4 rfl rfl Try.ntmps4 (by simp) (by simp) fun Q hr hn=>?_
  repeat' first|(refine hK _ ?_;clear hK)|(refine hK _ _ ?_;clear hK)|(clear hK;refine hK _ ?_;clear hK)|(clear hK;clear hK;refine hK _ ?_;clear hK)|(clear hK;clear hK;clear hK;refine hK _ ?_;clear hK)|(clear hK;clear hK;clear hK;clear hK;refine hK _ ?_;clear hK)|(refine zJ fun K hK=>?_)|((first | refine zH ?_ | refine zN rfl (by kernel_rfl) ?_ | refine zM ?_ | refine zK (by kernel_rfl) ?_);simp only [wJ,wI,strip])|((first | refine wIs fun K hK=>?_ | refine wOs fun K hK=>?_ | refine wQs fun K hK=>?_ | refine zU ?_ | refine zV ?_ | refine zW ?_ | refine zL ?_);simp [h1'])|(refine wIn ?_;refine And.intro (by kernel_rfl) ?_;try simp only [zX])|(first | refine zQ ?_ | refine zS ?_)|((first | refine zI ?_ | refine zO ?_ | refine zP ?_);try simp)|((first | refine zR ?_ | refine wOn ?_ | refine wQn ?_);try simp only [zX])|(refine zZ.pure (c1) rfl ?_)|(refine zZ.lent (c1) rfl ?_)|(refine zT.pure (c1) rfl ?_)|(refine zT.lent (c1) rfl ?_)|(refine zZ.own (c1) ?_)|(refine zY.pure (c1) rfl ?_)|(refine zY.lent (c1) rfl ?_)|(refine zY.own (c1) ?_)|(refine zZ.pure (c2) rfl ?_)|(refine zZ.lent (c2) rfl ?_)|(refine zT.pure (c2) rfl ?_)|(refine zT.lent (c2) rfl ?_)|(refine zZ.own (c2) ?_)|(refine zY.pure (c2) rfl ?_)|(refine zY.lent (c2) rfl ?_)|(refine zY.own (c2) ?_)
  all_goals apply hr
  all_goals simp [Try.f4]
 subst h1
 by_cases h2 : nx < 1
 ·rw [decide_eq_false (fun h => by have := h.2.1; omega), Bool.false_and]
  refine zG Try.tab Try.mixed Try.func4 rfl rfl Try.ntmps4 (by simp) (by simp) fun Q hr hn=>?_
  repeat' first|(refine hK _ ?_;clear hK)|(refine hK _ _ ?_;clear hK)|(clear hK;refine hK _ ?_;clear hK)|(clear hK;clear hK;refine hK _ ?_;clear hK)|(clear hK;clear hK;clear hK;refine hK _ ?_;clear hK)|(clear hK;clear hK;clear hK;clear hK;refine hK _ ?_;clear hK)|(refine zJ fun K hK=>?_)|((first | refine zH ?_ | refine zN rfl (by kernel_rfl) ?_ | refine zM ?_ | refine zK (by kernel_rfl) ?_);simp only [wJ,wI,strip])|((first | refine wIs fun K hK=>?_ | refine wOs fun K hK=>?_ | refine wQs fun K hK=>?_ | refine zU ?_ | refine zV ?_ | refine zW ?_ | refine zL ?_);simp [h2])|(refine wIn ?_;refine And.intro (by kernel_rfl) ?_;try simp only [zX])|(first | refine zQ ?_ | refine zS ?_)|((first | refine zI ?_ | refine zO ?_ | refine zP ?_);try simp)|((first | refine zR ?_ | refine wOn ?_ | refine wQn ?_);try simp only [zX])|(refine zZ.pure (c1) rfl ?_)|(refine zZ.lent (c1) rfl ?_)|(refine zT.pure (c1) rfl ?_)|(refine zT.lent (c1) rfl ?_)|(refine zZ.own (c1) ?_)|(refine zY.pure (c1) rfl ?_)|(refine zY.lent (c1) rfl ?_)|(refine zY.own (c1) ?_)|(refine zZ.pure (c2) rfl ?_)|(refine zZ.lent (c2) rfl ?_)|(refine zT.pure (c2) rfl ?_)|(refine zT.lent (c2) rfl ?_)|(refine zZ.own (c2) ?_)|(refine zY.pure (c2) rfl ?_)|(refine zY.lent (c2) rfl ?_)|(refine zY.own (c2) ?_)
  all_goals apply hr
  all_goals simp [Try.f4]
 by_cases h3 : 1099511627776 < nx
 ·rw [decide_eq_false (fun h => by have := h.2.2.1; omega), Bool.false_and]
  refine zG Try.tab Try.mixed Try.func4 rfl rfl Try.ntmps4 (by simp) (by simp) fun Q hr hn=>?_
  repeat' first|(refine hK _ ?_;clear hK)|(refine hK _ _ ?_;clear hK)|(clear hK;refine hK _ ?_;clear hK)|(clear hK;clear hK;refine hK _ ?_;clear hK)|(clear hK;clear hK;clear hK;refine hK _ ?_;clear hK)|(clear hK;clear hK;clear hK;clear hK;refine hK _ ?_;clear hK)|(refine zJ fun K hK=>?_)|((first | refine zH ?_ | refine zN rfl (by kernel_rfl) ?_ | refine zM ?_ | refine zK (by kernel_rfl) ?_);simp only [wJ,wI,strip])|((first | refine wIs fun K hK=>?_ | refine wOs fun K hK=>?_ | refine wQs fun K hK=>?_ | refine zU ?_ | refine zV ?_ | refine zW ?_ | refine zL ?_);simp [h2,h3])|(refine wIn ?_;refine And.intro (by kernel_rfl) ?_;try simp only [zX])|(first | refine zQ ?_ | refine zS ?_)|((first | refine zI ?_ | refine zO ?_ | refine zP ?_);try simp)|((first | refine zR ?_ | refine wOn ?_ | refine wQn ?_);try simp only [zX])|(refine zZ.pure (c1) rfl ?_)|(refine zZ.lent (c1) rfl ?_)|(refine zT.pure (c1) rfl ?_)|(refine zT.lent (c1) rfl ?_)|(refine zZ.own (c1) ?_)|(refine zY.pure (c1) rfl ?_)|(refine zY.lent (c1) rfl ?_)|(refine zY.own (c1) ?_)|(refine zZ.pure (c2) rfl ?_)|(refine zZ.lent (c2) rfl ?_)|(refine zT.pure (c2) rfl ?_)|(refine zT.lent (c2) rfl ?_)|(refine zZ.own (c2) ?_)|(refine zY.pure (c2) rfl ?_)|(refine zY.lent (c2) rfl ?_)|(refine zY.own (c2) ?_)
  all_goals apply hr
  all_goals simp [Try.f4]
 by_cases h4 : 20 < ss.length
 ·rw [decide_eq_false (fun h => by have := h.2.2.2; omega), Bool.false_and]
  have h4' : (20 : Int) < ss.length:=by omega
  refine zG Try.tab Try.mixed Try.func4 rfl rfl Try.ntmps4 (by simp) (by simp) fun Q hr hn=>?_
  repeat' first|(refine hK _ ?_;clear hK)|(refine hK _ _ ?_;clear hK)|(clear hK;refine hK _ ?_;clear hK)|(clear hK;clear hK;refine hK _ ?_;clear hK)|(clear hK;clear hK;clear hK;refine hK _ ?_;clear hK)|(clear hK;clear hK;clear hK;clear hK;refine hK _ ?_;clear hK)|(refine zJ fun K hK=>?_)|((first | refine zH ?_ | refine zN rfl (by kernel_rfl) ?_ | refine zM ?_ | refine zK (by kernel_rfl) ?_);simp only [wJ,wI,strip])|((first | refine wIs fun K hK=>?_ | refine wOs fun K hK=>?_ | refine wQs fun K hK=>?_ | refine zU ?_ | refine zV ?_ | refine zW ?_ | refine zL ?_);simp [h2,h3,h4,h4'])|(refine wIn ?_;refine And.intro (by kernel_rfl) ?_;try simp only [zX])|(first | refine zQ ?_ | refine zS ?_)|((first | refine zI ?_ | refine zO ?_ | refine zP ?_);try simp)|((first | refine zR ?_ | refine wOn ?_ | refine wQn ?_);try simp only [zX])|(refine zZ.pure (c1) rfl ?_)|(refine zZ.lent (c1) rfl ?_)|(refine zT.pure (c1) rfl ?_)|(refine zT.lent (c1) rfl ?_)|(refine zZ.own (c1) ?_)|(refine zY.pure (c1) rfl ?_)|(refine zY.lent (c1) rfl ?_)|(refine zY.own (c1) ?_)|(refine zZ.pure (c2) rfl ?_)|(refine zZ.lent (c2) rfl ?_)|(refine zT.pure (c2) rfl ?_)|(refine zT.lent (c2) rfl ?_)|(refine zZ.own (c2) ?_)|(refine zY.pure (c2) rfl ?_)|(refine zY.lent (c2) rfl ?_)|(refine zY.own (c2) ?_)
  all_goals apply hr
  all_goals simp [Try.f4]
 have h4' : ¬ (20 : Int) < ss.length:=by omega
 rw [decide_eq_true ⟨rfl,by omega,by omega,by omega⟩,Bool.true_and]
 refine zG Try.tab Try.mixed Try.func4 rfl rfl Try.ntmps4 (by simp) (by simp) fun Q hr hn=>?_
 repeat' first|(refine hK _ ?_;clear hK)|(refine hK _ _ ?_;clear hK)|(clear hK;refine hK _ ?_;clear hK)|(clear hK;clear hK;refine hK _ ?_;clear hK)|(clear hK;clear hK;clear hK;refine hK _ ?_;clear hK)|(clear hK;clear hK;clear hK;clear hK;refine hK _ ?_;clear hK)|(refine zJ fun K hK=>?_)|((first | refine zH ?_ | refine zN rfl (by kernel_rfl) ?_ | refine zM ?_ | refine zK (by kernel_rfl) ?_);simp only [wJ,wI,strip])|((first | refine wIs fun K hK=>?_ | refine wOs fun K hK=>?_ | refine wQs fun K hK=>?_ | refine zU ?_ | refine zV ?_ | refine zW ?_ | refine zL ?_);simp [h2,h3,h4,h4'])|(refine wIn ?_;refine And.intro (by kernel_rfl) ?_;try simp only [zX])|(first | refine zQ ?_ | refine zS ?_)|((first | refine zI ?_ | refine zO ?_ | refine zP ?_);try simp)|((first | refine zR ?_ | refine wOn ?_ | refine wQn ?_);try simp only [zX])|(refine zZ.pure (c1) rfl ?_)|(refine zZ.lent (c1) rfl ?_)|(refine zT.pure (c1) rfl ?_)|(refine zT.lent (c1) rfl ?_)|(refine zZ.own (c1) ?_)|(refine zY.pure (c1) rfl ?_)|(refine zY.lent (c1) rfl ?_)|(refine zY.own (c1) ?_)|(refine zZ.pure (c2) rfl ?_)|(refine zZ.lent (c2) rfl ?_)|(refine zT.pure (c2) rfl ?_)|(refine zT.lent (c2) rfl ?_)|(refine zZ.own (c2) ?_)|(refine zY.pure (c2) rfl ?_)|(refine zY.lent (c2) rfl ?_)|(refine zY.own (c2) ?_)
 refine xS (fun N st=>∃ k,k + N = ss.length /\ st.s 1 = .ptr 1 0 /\ st.b 1 = some (.box 30 [.p (.sl 5 X),.p (.sl 1 (ints ss)),.p (I nx),.p (I ep),.p (I n),.p (I kd),.p (.sl 4 (mbs ms)),.p (I ae),.p (I an)]) /\ st.s 32 = .p (.sl 1 (ints ss)) /\ st.s 33 = .p (I ss.length) /\ st.s 34 = .p (I k) /\ rsS nx (prevN ss k) (ss.drop k) = rsS nx 0 ss) ss.length ⟨0,by simp [prevN]⟩ fun K N st hL ⟨k,hk,g1,b1,g32,g33,g34,hi⟩=>?_
 by_cases hlt : k < ss.length
 case neg =>
  have hlt' : ¬ (k : Int) < ss.length:=by omega
  rw [List.drop_of_length_le (by omega),rsS] at hi
  rw [<- hi] at hr
  repeat' first|(refine hK _ ?_;clear hK)|(refine hK _ _ ?_;clear hK)|(clear hK;refine hK _ ?_;clear hK)|(clear hK;clear hK;refine hK _ ?_;clear hK)|(clear hK;clear hK;clear hK;refine hK _ ?_;clear hK)|(clear hK;clear hK;clear hK;clear hK;refine hK _ ?_;clear hK)|(refine zJ fun K hK=>?_)|((first | refine zH ?_ | refine zN rfl (by kernel_rfl) ?_ | refine zM ?_ | refine zK (by kernel_rfl) ?_);simp only [wJ,wI,strip])|((first | refine wIs fun K hK=>?_ | refine wOs fun K hK=>?_ | refine wQs fun K hK=>?_ | refine zU ?_ | refine zV ?_ | refine zW ?_ | refine zL ?_);simp [g1,b1,g32,g33,g34,hlt,hlt'])|(refine wIn ?_;refine And.intro (by kernel_rfl) ?_;try simp only [zX])|(first | refine zQ ?_ | refine zS ?_)|((first | refine zI ?_ | refine zO ?_ | refine zP ?_);try simp)|((first | refine zR ?_ | refine wOn ?_ | refine wQn ?_);try simp only [zX])
  all_goals apply hr
  all_goals simp [Try.f4]
 have hlt' : (k : Int) < ss.length:=by omega
 have hw:=xY k _ hlt (by omega)
 have he:=ints_get hlt
 rw [List.drop_eq_getElem_cons hlt,rsS] at hi
 have hp:=prevN_succ ss k hlt
 by_cases hk0 : k = 0
 ·subst hk0
  rw [show prevN ss 0 = 0 from rfl] at hi
  generalize hQ : ss[0] = v at *
  by_cases o1 : v < 1
  ·rw [decide_eq_false (fun h => by omega), Bool.false_and] at hi
   rw [<- hi] at hr
   repeat' first|(refine hK _ ?_;clear hK)|(refine hK _ _ ?_;clear hK)|(clear hK;refine hK _ ?_;clear hK)|(clear hK;clear hK;refine hK _ ?_;clear hK)|(clear hK;clear hK;clear hK;refine hK _ ?_;clear hK)|(clear hK;clear hK;clear hK;clear hK;refine hK _ ?_;clear hK)|(refine zJ fun K hK=>?_)|((first | refine zH ?_ | refine zN rfl (by kernel_rfl) ?_ | refine zM ?_ | refine zK (by kernel_rfl) ?_);simp only [wJ,wI,strip])|((first | refine wIs fun K hK=>?_ | refine wOs fun K hK=>?_ | refine wQs fun K hK=>?_ | refine zU ?_ | refine zV ?_ | refine zW ?_ | refine zL ?_);simp [g1,b1,g32,g33,g34,hlt,hlt',he,hQ,o1])|(refine wIn ?_;refine And.intro (by kernel_rfl) ?_;try simp only [zX])|(first | refine zQ ?_ | refine zS ?_)|((first | refine zI ?_ | refine zO ?_ | refine zP ?_);try simp)|((first | refine zR ?_ | refine wOn ?_ | refine wQn ?_);try simp only [zX])
   all_goals apply hr
   all_goals simp [Try.f4]
  by_cases o2 : nx <= v
  ·rw [decide_eq_false (fun h => by omega), Bool.false_and] at hi
   rw [<- hi] at hr
   repeat' first|(refine hK _ ?_;clear hK)|(refine hK _ _ ?_;clear hK)|(clear hK;refine hK _ ?_;clear hK)|(clear hK;clear hK;refine hK _ ?_;clear hK)|(clear hK;clear hK;clear hK;refine hK _ ?_;clear hK)|(clear hK;clear hK;clear hK;clear hK;refine hK _ ?_;clear hK)|(refine zJ fun K hK=>?_)|((first | refine zH ?_ | refine zN rfl (by kernel_rfl) ?_ | refine zM ?_ | refine zK (by kernel_rfl) ?_);simp only [wJ,wI,strip])|((first | refine wIs fun K hK=>?_ | refine wOs fun K hK=>?_ | refine wQs fun K hK=>?_ | refine zU ?_ | refine zV ?_ | refine zW ?_ | refine zL ?_);simp [g1,b1,g32,g33,g34,hlt,hlt',he,hQ,o1,o2])|(refine wIn ?_;refine And.intro (by kernel_rfl) ?_;try simp only [zX])|(first | refine zQ ?_ | refine zS ?_)|((first | refine zI ?_ | refine zO ?_ | refine zP ?_);try simp)|((first | refine zR ?_ | refine wOn ?_ | refine wQn ?_);try simp only [zX])
   all_goals apply hr
   all_goals simp [Try.f4]
  rw [decide_eq_true ⟨by omega,by omega,by omega⟩,Bool.true_and] at hi
  repeat' first|(refine hK _ ?_;clear hK)|(refine hK _ _ ?_;clear hK)|(clear hK;refine hK _ ?_;clear hK)|(clear hK;clear hK;refine hK _ ?_;clear hK)|(clear hK;clear hK;clear hK;refine hK _ ?_;clear hK)|(clear hK;clear hK;clear hK;clear hK;refine hK _ ?_;clear hK)|(refine zJ fun K hK=>?_)|((first | refine zH ?_ | refine zN rfl (by kernel_rfl) ?_ | refine zM ?_ | refine zK (by kernel_rfl) ?_);simp only [wJ,wI,strip])|((first | refine wIs fun K hK=>?_ | refine wOs fun K hK=>?_ | refine wQs fun K hK=>?_ | refine zU ?_ | refine zV ?_ | refine zW ?_ | refine zL ?_);simp [g1,b1,g32,g33,g34,hlt,hlt',hw,he,hQ,o1,o2])|(refine wIn ?_;refine And.intro (by kernel_rfl) ?_;try simp only [zX])|(first | refine zQ ?_ | refine zS ?_)|((first | refine zI ?_ | refine zO ?_ | refine zP ?_);try simp)|((first | refine zR ?_ | refine wOn ?_ | refine wQn ?_);try simp only [zX])
  all_goals refine hL _ (N - 1) (by omega) ⟨0 + 1,by omega,?_⟩
  all_goals rw [hp]
  all_goals simp [g1,b1,g32,g33,g34]
  all_goals exact ⟨by decide,by simpa using hi⟩
 ·have hw1 : IntKind.i64.wrap ((k : Int) - 1) = ((k - 1 : Nat) : Int) := by rw [yW] <;> omega
  have hk1 : 0 < k:=by omega
  have hk1' : (0 : Int) < k:=by omega
  have he1:=ints_get (l:=ss) (k:=k - 1) (by omega)
  have hq:=prevN_pos ss k hk1 hlt
  rw [hq] at hi
  clear hq
  generalize hQ : ss[k] = v at *
  generalize hQ1 : ss[k - 1] = u at *
  by_cases o1 : v < 1
  ·rw [decide_eq_false (fun h => by omega), Bool.false_and] at hi
   rw [<- hi] at hr
   repeat' first|(refine hK _ ?_;clear hK)|(refine hK _ _ ?_;clear hK)|(clear hK;refine hK _ ?_;clear hK)|(clear hK;clear hK;refine hK _ ?_;clear hK)|(clear hK;clear hK;clear hK;refine hK _ ?_;clear hK)|(clear hK;clear hK;clear hK;clear hK;refine hK _ ?_;clear hK)|(refine zJ fun K hK=>?_)|((first | refine zH ?_ | refine zN rfl (by kernel_rfl) ?_ | refine zM ?_ | refine zK (by kernel_rfl) ?_);simp only [wJ,wI,strip])|((first | refine wIs fun K hK=>?_ | refine wOs fun K hK=>?_ | refine wQs fun K hK=>?_ | refine zU ?_ | refine zV ?_ | refine zW ?_ | refine zL ?_);simp [g1,b1,g32,g33,g34,hlt,hlt',he,hQ,o1,hk1,hk1',hw1,he1,hQ1])|(refine wIn ?_;refine And.intro (by kernel_rfl) ?_;try simp only [zX])|(first | refine zQ ?_ | refine zS ?_)|((first | refine zI ?_ | refine zO ?_ | refine zP ?_);try simp)|((first | refine zR ?_ | refine wOn ?_ | refine wQn ?_);try simp only [zX])
   all_goals apply hr
   all_goals simp [Try.f4]
  by_cases o2 : nx <= v
  ·rw [decide_eq_false (fun h => by omega), Bool.false_and] at hi
   rw [<- hi] at hr
   repeat' first|(refine hK _ ?_;clear hK)|(refine hK _ _ ?_;clear hK)|(clear hK;refine hK _ ?_;clear hK)|(clear hK;clear hK;refine hK _ ?_;clear hK)|(clear hK;clear hK;clear hK;refine hK _ ?_;clear hK)|(clear hK;clear hK;clear hK;clear hK;refine hK _ ?_;clear hK)|(refine zJ fun K hK=>?_)|((first | refine zH ?_ | refine zN rfl (by kernel_rfl) ?_ | refine zM ?_ | refine zK (by kernel_rfl) ?_);simp only [wJ,wI,strip])|((first | refine wIs fun K hK=>?_ | refine wOs fun K hK=>?_ | refine wQs fun K hK=>?_ | refine zU ?_ | refine zV ?_ | refine zW ?_ | refine zL ?_);simp [g1,b1,g32,g33,g34,hlt,hlt',he,hQ,o1,o2,hk1,hk1',hw1,he1,hQ1])|(refine wIn ?_;refine And.intro (by kernel_rfl) ?_;try simp only [zX])|(first | refine zQ ?_ | refine zS ?_)|((first | refine zI ?_ | refine zO ?_ | refine zP ?_);try simp)|((first | refine zR ?_ | refine wOn ?_ | refine wQn ?_);try simp only [zX])
   all_goals apply hr
   all_goals simp [Try.f4]
  have hk2 : k - 1 < ss.length:=by omega
  have hk2' : ((k - 1 : Nat) : Int) < ss.length:=by omega
  by_cases o3 : v <= u
  ·rw [decide_eq_false (fun h => by omega), Bool.false_and] at hi
   rw [<- hi] at hr
   repeat' first|(refine hK _ ?_;clear hK)|(refine hK _ _ ?_;clear hK)|(clear hK;refine hK _ ?_;clear hK)|(clear hK;clear hK;refine hK _ ?_;clear hK)|(clear hK;clear hK;clear hK;refine hK _ ?_;clear hK)|(clear hK;clear hK;clear hK;clear hK;refine hK _ ?_;clear hK)|(refine zJ fun K hK=>?_)|((first | refine zH ?_ | refine zN rfl (by kernel_rfl) ?_ | refine zM ?_ | refine zK (by kernel_rfl) ?_);simp only [wJ,wI,strip])|((first | refine wIs fun K hK=>?_ | refine wOs fun K hK=>?_ | refine wQs fun K hK=>?_ | refine zU ?_ | refine zV ?_ | refine zW ?_ | refine zL ?_);simp [g1,b1,g32,g33,g34,hlt,hlt',he,hQ,o1,o2,o3,hk1,hk1',hw1,he1,hQ1,hk2,hk2'])|(refine wIn ?_;refine And.intro (by kernel_rfl) ?_;try simp only [zX])|(first | refine zQ ?_ | refine zS ?_)|((first | refine zI ?_ | refine zO ?_ | refine zP ?_);try simp)|((first | refine zR ?_ | refine wOn ?_ | refine wQn ?_);try simp only [zX])
   all_goals apply hr
   all_goals simp [Try.f4]
  rw [decide_eq_true ⟨by omega,by omega,by omega⟩,Bool.true_and] at hi
  repeat' first|(refine hK _ ?_;clear hK)|(refine hK _ _ ?_;clear hK)|(clear hK;refine hK _ ?_;clear hK)|(clear hK;clear hK;refine hK _ ?_;clear hK)|(clear hK;clear hK;clear hK;refine hK _ ?_;clear hK)|(clear hK;clear hK;clear hK;clear hK;refine hK _ ?_;clear hK)|(refine zJ fun K hK=>?_)|((first | refine zH ?_ | refine zN rfl (by kernel_rfl) ?_ | refine zM ?_ | refine zK (by kernel_rfl) ?_);simp only [wJ,wI,strip])|((first | refine wIs fun K hK=>?_ | refine wOs fun K hK=>?_ | refine wQs fun K hK=>?_ | refine zU ?_ | refine zV ?_ | refine zW ?_ | refine zL ?_);simp [g1,b1,g32,g33,g34,hlt,hlt',hw,he,hQ,o1,o2,o3,hk1,hk1',hw1,he1,hQ1,hk2,hk2'])|(refine wIn ?_;refine And.intro (by kernel_rfl) ?_;try simp only [zX])|(first | refine zQ ?_ | refine zS ?_)|((first | refine zI ?_ | refine zO ?_ | refine zP ?_);try simp)|((first | refine zR ?_ | refine wOn ?_ | refine wQn ?_);try simp only [zX])
  all_goals refine hL _ (N - 1) (by omega) ⟨k + 1,by omega,?_⟩
  all_goals rw [hp]
  all_goals simp [g1,b1,g32,g33,g34,hw,hi]
end Go.Proofs.Ytpilcadofjcdoaa
