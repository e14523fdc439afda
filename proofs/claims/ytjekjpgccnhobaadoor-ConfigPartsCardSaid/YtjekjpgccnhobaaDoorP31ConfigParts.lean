/- Texts that the proof needs: CF7 CF8. -/
import Derived.Test.YtjekjpgccnhobaaDoorP30ConfigParts
namespace Go.Proofs.YtjekjpgccnhobaaDoor
set_option linter.unusedSimpArgs false
set_option linter.unusedVariables false
set_option maxRecDepth 8000
open Go Go.Av
attribute [local irreducible] Go.Av.xH Go.Av.zU Go.Av.wY Go.Av.zT Go.Av.wZ Go.Av.zV Go.Av.Con
theorem u64_modC (t : Int) (L : Nat) (h0 : 0 < L) (hL : L <= 1000000) : ∃ n : Nat, n < L /\ IntKind.i64.wrap (IntKind.u64.wrap t |>.tmod (IntKind.u64.wrap (L : Int))) = (n : Int) /\ IntKind.u64.wrap (L : Int) ≠ 0 := by
 have e1 : IntKind.u64.wrap (L : Int) = L:=by simp [IntKind.wrap,IntKind.bits,IntKind.signed];omega
 have e2 : 0 <= IntKind.u64.wrap t:=by simp [IntKind.wrap,IntKind.bits,IntKind.signed];omega
 rw [e1]
 refine ⟨((IntKind.u64.wrap t).tmod L).toNat,?_,?_,by omega⟩
 ·rw [Int.tmod_eq_emod_of_nonneg e2]
  have:=Int.emod_lt_of_pos (IntKind.u64.wrap t) (show (0 : Int) < L by omega)
  have:=Int.emod_nonneg (IntKind.u64.wrap t) (show (L : Int) ≠ 0 by omega)
  omega
 ·rw [Int.tmod_eq_emod_of_nonneg e2]
  have h1:=Int.emod_lt_of_pos (IntKind.u64.wrap t) (show (0 : Int) < L by omega)
  have h2:=Int.emod_nonneg (IntKind.u64.wrap t) (show (L : Int) ≠ 0 by omega)
  rw [zG (by omega) (by omega)];omega
theorem fine_ltC : ∀ (l : List Mb) (p : Int), fine p l = true -> ∀ m ∈ l, p < m.i
 | [],_,_,m,hm=>by simp at hm
 | x :: l, p, h, m, hm => by
  simp only [fine,Bool.and_eq_true,decide_eq_true_eq] at h
  rcases List.mem_cons.1 hm with rfl | hm
  ·exact h.1.2
  ·have := fine_ltC l _ h.2 m hm
   omega
theorem fm_ofC : ∀ (l : List Mb) (p : Int), fine p l = true -> ∀ m ∈ l, fm m.i l = (m, true)
 | [],_,_,m,hm=>by simp at hm
 | x :: l, p, h, m, hm => by
  simp only [fine,Bool.and_eq_true,decide_eq_true_eq] at h
  rcases List.mem_cons.1 hm with rfl | hm
  ·simp [fm]
  ·have h1 := fine_ltC l _ h.2 m hm
   have h2:=fm_ofC l _ h.2 m hm
   simp only [fm]
   rw [if_neg (by omega),h2]
theorem fine_pw : ∀ (l : List Mb) (p : Int), fine p l = true -> l.Pairwise fun a b => a.i < b.i
 | [],_,_=>.nil
 | x :: l, p, h => by
  simp only [fine,Bool.and_eq_true,decide_eq_true_eq] at h
  exact .cons (fun m hm=>fine_ltC l _ h.2 m hm) (fine_pw l _ h.2)
theorem ids_sum : ∀ (l : List Mb), (∀ m ∈ l, okM m) -> (ids l 1).length + (ids l 2).length = l.length
 | [],_=>rfl
 | m :: l, h => by
  have ih:=ids_sum l fun x hx=>h x (List.mem_cons_of_mem _ hx)
  have h2:=(h m List.mem_cons_self).2.1
  unfold ids at ih ⊢
  rw [List.filter_cons,List.filter_cons]
  rcases h2 with h2 | h2
  ·rw [if_pos (by simpa using h2),if_neg (by simp [h2])];simp at ih ⊢;omega
  ·rw [if_neg (by simp [h2]),if_pos (by simpa using h2)];simp at ih ⊢;omega
theorem ids_at {l : List Mb} {k : Nat} (h : k < l.length) (r : Int) (hr : l[k].r = r) : (ids l r)[(ids (l.take k) r).length]? = some l[k].i := by
 have e : l = l.take k ++ l[k] :: l.drop (k + 1) := by
  conv=>lhs;rw [<- List.take_append_drop k l]
  rw [List.drop_eq_getElem_cons h]
 have e2 : ids l r = ids (l.take k) r ++ l[k].i :: ids (l.drop (k + 1)) r := by
  conv=>lhs;rw [e]
  unfold ids
  rw [List.filter_append,List.filter_cons,if_pos (by simpa using hr)];simp
 rw [e2,List.getElem?_append_right (Nat.le_refl _)]
 simp
theorem mbs_snoc0 (l : List Mb) (a : Mb) : mbs l ++ [[I a.i, I a.r, I a.w, I a.g]] = mbs (l ++ [a]) := by simp [mbs, Mb.cells]
def rotB (ms : List Mb) (n t : Nat) : List Mb := (List.range t).map fun s => ms.getD ((ms.length - 1 - s + n) % ms.length) ⟨0, 0, 0, 0⟩
theorem rotB_snoc (ms : List Mb) (n t : Nat) : rotB ms n (t + 1) = rotB ms n t ++ [ms.getD ((ms.length - 1 - t + n) % ms.length) ⟨0, 0, 0, 0⟩] := by
 unfold rotB;rw [List.range_succ,List.map_append];rfl
theorem rotB_len (ms : List Mb) (n t : Nat) : (rotB ms n t).length = t := by simp [rotB]
theorem rotB_eq (ms : List Mb) (n : Nat) (hn : n < ms.length) : rotB ms n ms.length = (ms.drop n ++ ms.take n).reverse := by
 apply List.ext_getElem
 ·rw [rotB_len,List.length_reverse,List.length_append,List.length_drop,List.length_take];omega
 ·intro s h1 h2
  rw [rotB_len] at h1
  rw [List.getElem_reverse]
  have hd : (ms.drop n).length = ms.length - n:=List.length_drop
  have ht : (ms.take n).length = n:=by rw [List.length_take];omega
  have hL : (ms.drop n ++ ms.take n).length = ms.length:=by rw [List.length_append,hd,ht];omega
  simp only [hL]
  have e0 : (rotB ms n ms.length)[s]'(by rw [rotB_len]; exact h1) = ms.getD ((ms.length - 1 - s + n) % ms.length) ⟨0, 0, 0, 0⟩ := by
   simp only [rotB,List.getElem_map,List.getElem_range]
  rw [e0]
  by_cases hs : ms.length - 1 - s < ms.length - n
  ·rw [List.getElem_append_left (by omega), List.getElem_drop]
   have e : (ms.length - 1 - s + n) % ms.length = n + (ms.length - 1 - s):=by rw [Nat.mod_eq_of_lt (by omega)];omega
   rw [e,List.getD_eq_getElem?_getD,List.getElem?_eq_getElem (by omega)];rfl
  ·rw [List.getElem_append_right (by omega), List.getElem_take]
   have e : (ms.length - 1 - s + n) % ms.length = ms.length - 1 - s - (ms.drop n).length := by
    rw [hd,Nat.mod_eq_sub_mod (by omega),Nat.mod_eq_of_lt (by omega)];omega
   rw [List.getD_eq_getElem?_getD,List.getElem?_eq_getElem (by rw [e];omega)]
   simp only [e,Option.getD_some]
theorem srt_perm {ms l : List Mb} (hp : List.Perm l ms) (hm : ms.Pairwise fun a b => a.i < b.i) : yA l = ms := by
 refine Sb.eq (srt_ord l) (hm.imp fun h=>by omega) ((srt_sb l).trans ⟨hp.length_eq,fun k=>?_⟩)
 have h1:=hp.filter (fun x=>decide (x.i = k))
 have h3:=hm.filter (fun x=>decide (x.i = k))
 have hmem : ∀ x ∈ ms.filter (fun x=>decide (x.i = k)),x.i = k:=fun x hx=>of_decide_eq_true (List.mem_filter.1 hx).2
 generalize ms.filter (fun x=>decide (x.i = k)) = R at h1 h3 hmem ⊢
 rcases R with _ | ⟨a,_ | ⟨b,r⟩⟩
 ·exact List.perm_nil.1 h1
 ·exact List.perm_singleton.1 h1
 ·have h4 := (List.pairwise_cons.1 h3).1 b (by simp)
  have h5:=hmem a (by simp)
  have h6:=hmem b (by simp)
  omega
theorem srt_rot {ms : List Mb} {p : Int} (hf : fine p ms = true) (n : Nat) (hn : n < ms.length) : yA (rotB ms n ms.length) = ms := by
 rw [rotB_eq ms n hn]
 refine srt_perm ?_ (fine_pw ms p hf)
 refine (List.reverse_perm _).trans (List.perm_append_comm.trans ?_)
 rw [List.take_append_drop]
set_option maxHeartbeats 16000000 in
theorem configParts_con (c : Cf) (turn : Int) (hz : c.ms.length <= 9223372036854775807) : zE Tryd.prog 6 [.p (.agg c.cells), .p (I turn)] (.p (B true)) := by
 have c0:=far04_con c hz
 have ca:=awake04
 by_cases hf : 300 < c.ms.length
 ·rw [decide_eq_true hf] at c0
  unfold Cf.cells at *
  clear hz hf
  refine zF Tryd.tab Tryd.mixed Tryd.func6 rfl rfl Tryd.ntmps6 (by simp) (by simp) fun Q hr hn=>?_
  repeat' first|(refine hK _ ?_;clear hK)|(refine hK _ _ ?_;clear hK)|(clear hK;refine hK _ ?_;clear hK)|(clear hK;clear hK;refine hK _ ?_;clear hK)|(clear hK;clear hK;clear hK;refine hK _ ?_;clear hK)|(clear hK;clear hK;clear hK;clear hK;refine hK _ ?_;clear hK)|(refine zJ fun K hK=>?_)|((first | refine zH ?_ | refine zN rfl (by kernel_rfl) ?_ | refine zM ?_ | refine zK (by kernel_rfl) ?_);simp only [wX,wW,strip])|((first | refine wIs fun K hK=>?_ | refine wOs fun K hK=>?_ | refine wQs fun K hK=>?_ | refine zW ?_ | refine zX ?_ | refine zY ?_ | refine zL ?_);simp)|(refine wIn ?_;refine And.intro (by kernel_rfl) ?_;try simp only [zZ])|(first | refine zQ ?_ | refine zS ?_)|((first | refine zI ?_ | refine zO ?_ | refine zP ?_);try simp)|((first | refine zR ?_ | refine wOn ?_ | refine wQn ?_);try simp only [zZ])|(refine zU.pure (c0) rfl ?_)|(refine zU.lent (c0) rfl ?_)|(refine zT.pure (c0) rfl ?_)|(refine zT.lent (c0) rfl ?_)|(refine zU.own (c0) ?_)|(refine zV.pure (c0) rfl ?_)|(refine zV.lent (c0) rfl ?_)|(refine zV.own (c0) ?_)|(refine zU.pure (ca) rfl ?_)|(refine zU.lent (ca) rfl ?_)|(refine zT.pure (ca) rfl ?_)|(refine zT.lent (ca) rfl ?_)|(refine zU.own (ca) ?_)|(refine zV.pure (ca) rfl ?_)|(refine zV.lent (ca) rfl ?_)|(refine zV.own (ca) ?_)
  all_goals apply hr
  all_goals simp [Tryd.f6]
 rw [decide_eq_false hf] at c0
 have c1:=check_con c (by omega)
 by_cases hc : check c = 0
 case neg =>
  have hc':=eq_false hc
  generalize check c = e at *
  unfold Cf.cells at *
  clear hz hf
  refine zF Tryd.tab Tryd.mixed Tryd.func6 rfl rfl Tryd.ntmps6 (by simp) (by simp) fun Q hr hn=>?_
  repeat' first|(refine hK _ ?_;clear hK)|(refine hK _ _ ?_;clear hK)|(clear hK;refine hK _ ?_;clear hK)|(clear hK;clear hK;refine hK _ ?_;clear hK)|(clear hK;clear hK;clear hK;refine hK _ ?_;clear hK)|(clear hK;clear hK;clear hK;clear hK;refine hK _ ?_;clear hK)|(refine zJ fun K hK=>?_)|((first | refine zH ?_ | refine zN rfl (by kernel_rfl) ?_ | refine zM ?_ | refine zK (by kernel_rfl) ?_);simp only [wX,wW,strip])|((first | refine wIs fun K hK=>?_ | refine wOs fun K hK=>?_ | refine wQs fun K hK=>?_ | refine zW ?_ | refine zX ?_ | refine zY ?_ | refine zL ?_);simp [hc'])|(refine wIn ?_;refine And.intro (by kernel_rfl) ?_;try simp only [zZ])|(first | refine zQ ?_ | refine zS ?_)|((first | refine zI ?_ | refine zO ?_ | refine zP ?_);try simp)|((first | refine zR ?_ | refine wOn ?_ | refine wQn ?_);try simp only [zZ])|(refine zU.pure (c0) rfl ?_)|(refine zU.lent (c0) rfl ?_)|(refine zT.pure (c0) rfl ?_)|(refine zT.lent (c0) rfl ?_)|(refine zU.own (c0) ?_)|(refine zV.pure (c0) rfl ?_)|(refine zV.lent (c0) rfl ?_)|(refine zV.own (c0) ?_)|(refine zU.pure (c1) rfl ?_)|(refine zU.lent (c1) rfl ?_)|(refine zT.pure (c1) rfl ?_)|(refine zT.lent (c1) rfl ?_)|(refine zU.own (c1) ?_)|(refine zV.pure (c1) rfl ?_)|(refine zV.lent (c1) rfl ?_)|(refine zV.own (c1) ?_)|(refine zU.pure (ca) rfl ?_)|(refine zU.lent (ca) rfl ?_)|(refine zT.pure (ca) rfl ?_)|(refine zT.lent (ca) rfl ?_)|(refine zU.own (ca) ?_)|(refine zV.pure (ca) rfl ?_)|(refine zV.lent (ca) rfl ?_)|(refine zV.own (ca) ?_)
  all_goals apply hr
  all_goals simp [Tryd.f6]
 rw [hc] at c1
 obtain ⟨-,hfi,hca⟩:=check_all hc
 have hok:=fine_all _ _ hfi
 have hsum:=ids_sum c.ms hok
 have hat:=fun k (hk : k < c.ms.length)=>ids_at hk
 have hfm:=fm_ofC _ _ hfi
 have xC : 0 < (ids c.ms 1).length := by
  unfold xN at hca
  obtain ⟨m,hm,hm2⟩:=List.any_eq_true.1 hca
  unfold carrier at hm2
  simp only [Bool.and_eq_true,decide_eq_true_eq] at hm2
  have : m.i ∈ ids c.ms 1 := by
   unfold ids
   exact List.mem_map.2 ⟨m,List.mem_filter.2 ⟨hm,by simpa using hm2.1⟩,rfl⟩
  exact List.length_pos_of_mem this
 have c2:=voters_con c (by omega)
 have c3:=watchers_con c (by omega)
 have cfi:=fun id=>find_con c id (by omega)
 have hL0 : 0 < c.ms.length:=by omega
 obtain ⟨n,hn,hw1,hw2⟩:=u64_modC turn c.ms.length hL0 (by omega)
 have hrot:=srt_rot hfi n hn
 have c4:=(sortW_con (rotB c.ms n c.ms.length) (by rw [rotB_len];omega)).toPure
 rw [stS_srt,hrot] at c4
 have c5:=cfSame04_con ⟨0,0,0,c.ms⟩ ⟨0,0,0,c.ms⟩
 rw [decide_eq_true rfl] at c5
 have hL3 : c.ms.length <= 300:=by omega
 have hsn1:=fun k hk=>ids_snoc c.ms 1 k hk
 have hsn2:=fun k hk=>ids_snoc c.ms 2 k hk
 have hle1:=fun k=>ids_len (c.ms.take k) 1
 have hle2:=fun k=>ids_len (c.ms.take k) 2
 clear hz hf hc hfi hca hrot
 obtain ⟨ep,cn,kd,ms⟩:=c
 unfold Cf.cells at *
 dsimp only at *
 have w1 : IntKind.i64.wrap (((ids ms 1).length : Int) + ((ids ms 2).length : Int)) = (ms.length : Int):=by rw [zG] <;> omega
 have w2 : ¬ (ids ms 1).length = 0:=by omega
 have w2' : ¬ ((ids ms 1).length : Int) = 0:=by omega
 have w3 : IntKind.i64.wrap ((ms.length : Int) - 1) = (ms.length : Int) - 1:=by rw [zG] <;> omega
 generalize hV : ids ms 1 = V at *
 generalize hW : ids ms 2 = W at *
 refine zF Tryd.tab Tryd.mixed Tryd.func6 rfl rfl Tryd.ntmps6 (by simp) (by simp) fun Q hr hn=>?_
 repeat' first|(refine hK _ ?_;clear hK)|(refine hK _ _ ?_;clear hK)|(clear hK;refine hK _ ?_;clear hK)|(clear hK;clear hK;refine hK _ ?_;clear hK)|(clear hK;clear hK;clear hK;refine hK _ ?_;clear hK)|(clear hK;clear hK;clear hK;clear hK;refine hK _ ?_;clear hK)|(refine zJ fun K hK=>?_)|((first | refine zH ?_ | refine zN rfl (by kernel_rfl) ?_ | refine zM ?_ | refine zK (by kernel_rfl) ?_);simp only [wX,wW,strip])|((first | refine wIs fun K hK=>?_ | refine wOs fun K hK=>?_ | refine wQs fun K hK=>?_ | refine zW ?_ | refine zX ?_ | refine zY ?_ | refine zL ?_);simp [w1,w2,w2'])|(refine wIn ?_;refine And.intro (by kernel_rfl) ?_;try simp only [zZ])|(first | refine zQ ?_ | refine zS ?_)|((first | refine zI ?_ | refine zO ?_ | refine zP ?_);try simp)|((first | refine zR ?_ | refine wOn ?_ | refine wQn ?_);try simp only [zZ])|(refine zU.pure (c0) rfl ?_)|(refine zU.lent (c0) rfl ?_)|(refine zT.pure (c0) rfl ?_)|(refine zT.lent (c0) rfl ?_)|(refine zU.own (c0) ?_)|(refine zV.pure (c0) rfl ?_)|(refine zV.lent (c0) rfl ?_)|(refine zV.own (c0) ?_)|(refine zU.pure (c1) rfl ?_)|(refine zU.lent (c1) rfl ?_)|(refine zT.pure (c1) rfl ?_)|(refine zT.lent (c1) rfl ?_)|(refine zU.own (c1) ?_)|(refine zV.pure (c1) rfl ?_)|(refine zV.lent (c1) rfl ?_)|(refine zV.own (c1) ?_)|(refine zU.pure (c2) rfl ?_)|(refine zU.lent (c2) rfl ?_)|(refine zT.pure (c2) rfl ?_)|(refine zT.lent (c2) rfl ?_)|(refine zU.own (c2) ?_)|(refine zV.pure (c2) rfl ?_)|(refine zV.lent (c2) rfl ?_)|(refine zV.own (c2) ?_)|(refine zU.pure (c3) rfl ?_)|(refine zU.lent (c3) rfl ?_)|(refine zT.pure (c3) rfl ?_)|(refine zT.lent (c3) rfl ?_)|(refine zU.own (c3) ?_)|(refine zV.pure (c3) rfl ?_)|(refine zV.lent (c3) rfl ?_)|(refine zV.own (c3) ?_)
 refine yB (fun N st => ∃ k, k + N = ms.length /\ st.s 1 = .p (I turn) /\ st.s 2 = .ptr 2 0 /\ st.b 2 = some (.box 26 [.p (I ep), .p (I cn), .p (I kd), .p (.sl 4 (mbs ms))]) /\ st.s 5 = .p (.sl 1 (ints V)) /\ st.s 6 = .p (.sl 1 (ints W)) /\ st.s 7 = .p (I (ids (ms.take k) 1).length) /\ st.s 8 = .p (I (ids (ms.take k) 2).length) ∧
  st.s 43 = .p (.sl 4 (mbs ms)) /\ st.s 44 = .p (I ms.length) /\ st.s 45 = .p (I k)) ms.length ⟨0,by simp [ids]⟩ fun K N st hL ⟨k,hk,g1,g2,b2,g5,g6,g7,g8,g43,g44,g45⟩=>?_
 by_cases hlt : k < ms.length
 ·have hw := wrapS k _ hlt (by omega)
  have he:=mbs_get hlt
  have hm:=hok _ (List.getElem_mem hlt)
  have cf:=cfi ms[k].i
  rw [hfm _ (List.getElem_mem hlt)] at cf
  have s1:=hsn1 k hlt
  have s2:=hsn2 k hlt
  have l1:=hle1 k
  have l2:=hle2 k
  rw [List.length_take] at l1 l2
  have a1:=hat k hlt 1
  have a2:=hat k hlt 2
  rw [hV] at a1
  rw [hW] at a2
  clear c0 c1 c2 c3 c4 c5 ca cfi hfm hsn1 hsn2 hle1 hle2 hat hr hn hw1 hw2
  generalize hF : ms[k] = m at *
  obtain ⟨mi,mr,mw,mg⟩:=m
  simp only [Mb.cells] at *
  generalize hi1 : ids (ms.take k) 1 = I1 at *
  generalize hi2 : ids (ms.take k) 2 = I2 at *
  rcases hm.2.1 with h1 | h2
  ·simp only at h1
   subst h1
   rw [if_pos rfl] at s1
   rw [if_neg (by decide)] at s2
   have a:=a1 rfl
   have ha:=(List.getElem?_eq_some_iff.1 a).1
   have haE:=(List.getElem?_eq_some_iff.1 a).2
   have ha' : (I1.length : Int) < V.length:=by omega
   have hw7 : IntKind.i64.wrap ((I1.length : Int) + 1) = ((I1.length + 1 : Nat) : Int):=by rw [zG] <;> omega
   repeat' first|(refine hK _ ?_;clear hK)|(refine hK _ _ ?_;clear hK)|(clear hK;refine hK _ ?_;clear hK)|(clear hK;clear hK;refine hK _ ?_;clear hK)|(clear hK;clear hK;clear hK;refine hK _ ?_;clear hK)|(clear hK;clear hK;clear hK;clear hK;refine hK _ ?_;clear hK)|(refine zJ fun K hK=>?_)|((first | refine zH ?_ | refine zN rfl (by kernel_rfl) ?_ | refine zM ?_ | refine zK (by kernel_rfl) ?_);simp only [wX,wW,strip])|((first | refine wIs fun K hK=>?_ | refine wOs fun K hK=>?_ | refine wQs fun K hK=>?_ | refine zW ?_ | refine zX ?_ | refine zY ?_ | refine zL ?_);simp [g1,g2,b2,g5,g6,g7,g8,g43,g44,g45,hlt,hw,he,hF,ha,ha',haE,hw7])|(refine wIn ?_;refine And.intro (by kernel_rfl) ?_;try simp only [zZ])|(first | refine zQ ?_ | refine zS ?_)|((first | refine zI ?_ | refine zO ?_ | refine zP ?_);try simp)|((first | refine zR ?_ | refine wOn ?_ | refine wQn ?_);try simp only [zZ])|(refine zU.pure (cf) rfl ?_)|(refine zU.lent (cf) rfl ?_)|(refine zT.pure (cf) rfl ?_)|(refine zT.lent (cf) rfl ?_)|(refine zU.own (cf) ?_)|(refine zV.pure (cf) rfl ?_)|(refine zV.lent (cf) rfl ?_)|(refine zV.own (cf) ?_)
   refine hL _ (N - 1) (by omega) ⟨k + 1,by omega,?_⟩
   rw [s1,s2]
   simp [g1,g2,b2,g5,g6,g7,g8,g43,g44,g45,hw,hw7]
  ·simp only at h2
   subst h2
   rw [if_neg (by decide)] at s1
   rw [if_pos rfl] at s2
   have a:=a2 rfl
   have ha:=(List.getElem?_eq_some_iff.1 a).1
   have haE:=(List.getElem?_eq_some_iff.1 a).2
   have ha' : (I2.length : Int) < W.length:=by omega
   have hw8 : IntKind.i64.wrap ((I2.length : Int) + 1) = ((I2.length + 1 : Nat) : Int):=by rw [zG] <;> omega
   repeat' first|(refine hK _ ?_;clear hK)|(refine hK _ _ ?_;clear hK)|(clear hK;refine hK _ ?_;clear hK)|(clear hK;clear hK;refine hK _ ?_;clear hK)|(clear hK;clear hK;clear hK;refine hK _ ?_;clear hK)|(clear hK;clear hK;clear hK;clear hK;refine hK _ ?_;clear hK)|(refine zJ fun K hK=>?_)|((first | refine zH ?_ | refine zN rfl (by kernel_rfl) ?_ | refine zM ?_ | refine zK (by kernel_rfl) ?_);simp only [wX,wW,strip])|((first | refine wIs fun K hK=>?_ | refine wOs fun K hK=>?_ | refine wQs fun K hK=>?_ | refine zW ?_ | refine zX ?_ | refine zY ?_ | refine zL ?_);simp [g1,g2,b2,g5,g6,g7,g8,g43,g44,g45,hlt,hw,he,hF,ha,ha',haE,hw8])|(refine wIn ?_;refine And.intro (by kernel_rfl) ?_;try simp only [zZ])|(first | refine zQ ?_ | refine zS ?_)|((first | refine zI ?_ | refine zO ?_ | refine zP ?_);try simp)|((first | refine zR ?_ | refine wOn ?_ | refine wQn ?_);try simp only [zZ])|(refine zU.pure (cf) rfl ?_)|(refine zU.lent (cf) rfl ?_)|(refine zT.pure (cf) rfl ?_)|(refine zT.lent (cf) rfl ?_)|(refine zU.own (cf) ?_)|(refine zV.pure (cf) rfl ?_)|(refine zV.lent (cf) rfl ?_)|(refine zV.own (cf) ?_)
   refine hL _ (N - 1) (by omega) ⟨k + 1,by omega,?_⟩
   rw [s1,s2]
   simp [g1,g2,b2,g5,g6,g7,g8,g43,g44,g45,hw,hw8]
 have hkL : k = ms.length:=by omega
 clear cfi hfm hsn1 hsn2 hle1 hle2 hat hok
 repeat' first|(refine hK _ ?_;clear hK)|(refine hK _ _ ?_;clear hK)|(clear hK;refine hK _ ?_;clear hK)|(clear hK;clear hK;refine hK _ ?_;clear hK)|(clear hK;clear hK;clear hK;refine hK _ ?_;clear hK)|(clear hK;clear hK;clear hK;clear hK;refine hK _ ?_;clear hK)|(refine zJ fun K hK=>?_)|((first | refine zH ?_ | refine zN rfl (by kernel_rfl) ?_ | refine zM ?_ | refine zK (by kernel_rfl) ?_);simp only [wX,wW,strip])|((first | refine wIs fun K hK=>?_ | refine wOs fun K hK=>?_ | refine wQs fun K hK=>?_ | refine zW ?_ | refine zX ?_ | refine zY ?_ | refine zL ?_);simp [g1,g2,b2,g5,g6,g7,g8,g43,g44,g45,hlt,hw1,hw2,w3])|(refine wIn ?_;refine And.intro (by kernel_rfl) ?_;try simp only [zZ])|(first | refine zQ ?_ | refine zS ?_)|((first | refine zI ?_ | refine zO ?_ | refine zP ?_);try simp)|((first | refine zR ?_ | refine wOn ?_ | refine wQn ?_);try simp only [zZ])
 refine wLoopG [.row 14 30 4] (fun N st=>∃ t,t + N = ms.length /\ st.s 2 = .ptr 2 0 /\ st.b 2 = some (.box 26 [.p (I ep),.p (I cn),.p (I kd),.p (.sl 4 (mbs ms))]) /\ st.s 13 = .p (I n) /\ st.s 14 = .row 14 /\ st.b 14 = some (.row 30 4 (mbs (rotB ms n t))) /\ st.s 15 = .p (I ((ms.length : Int) - 1 - t))) ms.length ⟨0,by simp [rotB,mbs,g2,b2]⟩ fun K N st hL ⟨t,ht,g2,b2,g13,g14,b14,g15⟩=>?_
 by_cases hlt2 : t < ms.length
 ·obtain ⟨x, hx⟩ : ∃ x : Nat, x = ms.length - 1 - t := ⟨_, rfl⟩
  have hx1 : (ms.length : Int) - 1 - t = (x : Int):=by omega
  have v0 : (0 : Int) <= (x : Int):=by omega
  have v1 : IntKind.i64.wrap ((x : Int) + (n : Int)) = ((x + n : Nat) : Int):=by rw [zG] <;> omega
  have v2 : (((x + n : Nat) : Int)).tmod (ms.length : Int) = (((x + n) % ms.length : Nat) : Int):=by rw [Int.tmod_eq_emod_of_nonneg (by omega)];omega
  have v2' : ((x : Int) + (n : Int)).tmod (ms.length : Int) = (((x + n) % ms.length : Nat) : Int):=by rw [<- v2];push_cast;rfl
  have v3 : (x + n) % ms.length < ms.length:=Nat.mod_lt _ hL0
  have v4 : IntKind.i64.wrap ((x : Int) - 1) = (ms.length : Int) - 1 - ((t + 1 : Nat) : Int):=by rw [zG] <;> omega
  have v5 : ¬ ms.length = 0:=by omega
  have v5' : ¬ (ms.length : Int) = 0:=by omega
  have hsn:=rotB_snoc ms n t
  rw [<- hx,List.getD_eq_getElem?_getD,List.getElem?_eq_getElem v3,Option.getD_some] at hsn
  have hrl:=rotB_len ms n t
  have he:=mbs_get v3
  rw [hx1] at g15
  generalize (x + n) % ms.length = y at *
  generalize hF : ms[y] = m at *
  have ha:=mbs_snoc0 (rotB ms n t) m
  rw [<- hsn] at ha
  generalize rotB ms n t = Y at *
  generalize hY2 : rotB ms n (t + 1) = Y2 at *
  clear c0 c1 c2 c3 c4 c5 ca hr
  repeat' first|(refine hK _ ?_;clear hK)|(refine hK _ _ ?_;clear hK)|(clear hK;refine hK _ ?_;clear hK)|(clear hK;clear hK;refine hK _ ?_;clear hK)|(clear hK;clear hK;clear hK;refine hK _ ?_;clear hK)|(clear hK;clear hK;clear hK;clear hK;refine hK _ ?_;clear hK)|(refine zJ fun K hK=>?_)|((first | refine zH ?_ | refine zN rfl (by kernel_rfl) ?_ | refine zM ?_ | refine zK (by kernel_rfl) ?_);simp only [wX,wW,strip])|((first | refine wIs fun K hK=>?_ | refine wOs fun K hK=>?_ | refine wQs fun K hK=>?_ | refine zW ?_ | refine zX ?_ | refine zY ?_ | refine zL ?_);simp [g2,b2,g13,g14,b14,g15,v0,v1,v2,v2',v3,v4,v5,v5',he,hF,ha,hrl])|(refine wIn ?_;refine And.intro (by kernel_rfl) ?_;try simp only [zZ])|(first | refine zQ ?_ | refine zS ?_)|((first | refine zI ?_ | refine zO ?_ | refine zP ?_);try simp)|((first | refine zR ?_ | refine wOn ?_ | refine wQn ?_);try simp only [zZ])|(refine And.intro (by (try simp only [mbs_len,hrl]);omega) ?_)
  refine hL _ (N - 1) (by omega) ⟨t + 1,by omega,?_⟩
  simp [g2,b2,g13,g14,b14,g15,v4,ha,hY2]
 ·have htL : t = ms.length := by omega
  subst htL
  have v0 : ¬ (0 : Int) <= (ms.length : Int) - 1 - ms.length:=by omega
  have v0' : (ms.length : Int) - 1 - ms.length = -1:=by omega
  rw [v0'] at g15
  generalize rotB ms n ms.length = Y at *
  clear c0 c1 c2 c3
  have e2 : (xG st [.frz 14]).s 2 = .ptr 2 0:=by simp [g2,b14]
  have d2 : (xG st [.frz 14]).b 2 = some (.box 26 [.p (I ep),.p (I cn),.p (I kd),.p (.sl 4 (mbs ms))]):=by simp [b2,b14]
  have e14 : (xG st [.frz 14]).s 14 = .p (.sl 4 (mbs Y)):=by simp [g14,b14]
  have e15 : (xG st [.frz 14]).s 15 = .p (I (-1)):=by simp [g15,b14]
  repeat' first|(refine wFrz (st:=st) [.frz 14] ?_;generalize xG st [.frz 14] = st2 at e2 d2 e14 e15 ⊢)|(refine zU.pure (c4) rfl ?_)|(refine zU.lent (c4) rfl ?_)|(refine zT.pure (c4) rfl ?_)|(refine zT.lent (c4) rfl ?_)|(refine zU.own (c4) ?_)|(refine zV.pure (c4) rfl ?_)|(refine zV.lent (c4) rfl ?_)|(refine zV.own (c4) ?_)|(refine zU.pure (c5) rfl ?_)|(refine zU.lent (c5) rfl ?_)|(refine zT.pure (c5) rfl ?_)|(refine zT.lent (c5) rfl ?_)|(refine zU.own (c5) ?_)|(refine zV.pure (c5) rfl ?_)|(refine zV.lent (c5) rfl ?_)|(refine zV.own (c5) ?_)|(refine zU.pure (ca) rfl ?_)|(refine zU.lent (ca) rfl ?_)|(refine zT.pure (ca) rfl ?_)|(refine zT.lent (ca) rfl ?_)|(refine zU.own (ca) ?_)|(refine zV.pure (ca) rfl ?_)|(refine zV.lent (ca) rfl ?_)|(refine zV.own (ca) ?_)|(refine hK _ ?_;clear hK)|(refine hK _ _ ?_;clear hK)|(clear hK;refine hK _ ?_;clear hK)|(clear hK;clear hK;refine hK _ ?_;clear hK)|(clear hK;clear hK;clear hK;refine hK _ ?_;clear hK)|(clear hK;clear hK;clear hK;clear hK;refine hK _ ?_;clear hK)|(refine zJ fun K hK=>?_)|((first | refine zH ?_ | refine zN rfl (by kernel_rfl) ?_ | refine zM ?_ | refine zK (by kernel_rfl) ?_);simp only [wX,wW,strip])|((first | refine wIs fun K hK=>?_ | refine wOs fun K hK=>?_ | refine wQs fun K hK=>?_ | refine zW ?_ | refine zX ?_ | refine zY ?_ | refine zL ?_);simp [e2,d2,e14,e15])|(refine wIn ?_;refine And.intro (by kernel_rfl) ?_;try simp only [zZ])|(first | refine zQ ?_ | refine zS ?_)|((first | refine zI ?_ | refine zO ?_ | refine zP ?_);try simp)|((first | refine zR ?_ | refine wOn ?_ | refine wQn ?_);try simp only [zZ])
  all_goals apply hr
  all_goals simp [Tryd.f6]
end Go.Proofs.YtjekjpgccnhobaaDoor
