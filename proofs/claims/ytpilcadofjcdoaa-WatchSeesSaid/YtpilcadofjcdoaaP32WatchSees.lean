/- Texts that the proof needs: RS2 QCu RS3. -/
import Derived.Test.YtpilcadofjcdoaaP31WatchSees
namespace Go.Proofs.Ytpilcadofjcdoaa
set_option linter.unusedSimpArgs false
set_option linter.unusedVariables false
set_option maxRecDepth 8000
open Go Go.Av
attribute [local irreducible] Go.Av.yQ Go.Av.zZ Go.Av.yG Go.Av.zT Go.Av.yH Go.Av.zY Go.Av.Con
theorem has06_con (l : List Int) (n : Int) (hl : l.length <= 4611686018427387904) : zF Try.prog 46 [.p (.sl 1 (ints l)), .p (I n)] (.p (B (decide (n ∈ l)))) := by
 refine zG Try.tab Try.mixed Try.func46 rfl rfl Try.ntmps46 (by simp) (by simp) fun Q hr hn=>?_
 repeat' first|(refine hK _ ?_;clear hK)|(refine hK _ _ ?_;clear hK)|(clear hK;refine hK _ ?_;clear hK)|(clear hK;clear hK;refine hK _ ?_;clear hK)|(clear hK;clear hK;clear hK;refine hK _ ?_;clear hK)|(clear hK;clear hK;clear hK;clear hK;refine hK _ ?_;clear hK)|(refine zJ fun K hK=>?_)|((first | refine zH ?_ | refine zN rfl (by kernel_rfl) ?_ | refine zM ?_ | refine zK (by kernel_rfl) ?_);simp only [wJ,wI,strip])|((first | refine wIs fun K hK=>?_ | refine wOs fun K hK=>?_ | refine wQs fun K hK=>?_ | refine zU ?_ | refine zV ?_ | refine zW ?_ | refine zL ?_);simp)|(refine wIn ?_;refine And.intro (by kernel_rfl) ?_;try simp only [zX])|(first | refine zQ ?_ | refine zS ?_)|((first | refine zI ?_ | refine zO ?_ | refine zP ?_);try simp)|((first | refine zR ?_ | refine wOn ?_ | refine wQn ?_);try simp only [zX])
 refine xS (fun N st=>∃ k,k + N = l.length /\ st.s 1 = .p (I n) /\ st.s 7 = .p (.sl 1 (ints l)) /\ st.s 8 = .p (I l.length) /\ st.s 9 = .p (I k) /\ (n ∈ l ↔ n ∈ l.drop k)) l.length ⟨0,by simp⟩ fun K N st hL ⟨k,hk,h1,h7,h8,h9,hi⟩=>?_
 by_cases hlt : k < l.length
 ·have hw := xY k _ hlt (by omega)
  have he:=ints_get hlt
  rw [List.drop_eq_getElem_cons hlt,List.mem_cons] at hi
  generalize hF : l[k] = x at *
  by_cases o : x = n
  ·subst o
   rw [decide_eq_true (hi.2 (.inl rfl))] at hr
   repeat' first|(refine hK _ ?_;clear hK)|(refine hK _ _ ?_;clear hK)|(clear hK;refine hK _ ?_;clear hK)|(clear hK;clear hK;refine hK _ ?_;clear hK)|(clear hK;clear hK;clear hK;refine hK _ ?_;clear hK)|(clear hK;clear hK;clear hK;clear hK;refine hK _ ?_;clear hK)|(refine zJ fun K hK=>?_)|((first | refine zH ?_ | refine zN rfl (by kernel_rfl) ?_ | refine zM ?_ | refine zK (by kernel_rfl) ?_);simp only [wJ,wI,strip])|((first | refine wIs fun K hK=>?_ | refine wOs fun K hK=>?_ | refine wQs fun K hK=>?_ | refine zU ?_ | refine zV ?_ | refine zW ?_ | refine zL ?_);simp [h1,h7,h8,h9,hlt,hw,he,hF])|(refine wIn ?_;refine And.intro (by kernel_rfl) ?_;try simp only [zX])|(first | refine zQ ?_ | refine zS ?_)|((first | refine zI ?_ | refine zO ?_ | refine zP ?_);try simp)|((first | refine zR ?_ | refine wOn ?_ | refine wQn ?_);try simp only [zX])
   all_goals apply hr
   all_goals simp [Try.f46]
  ·have o' : (x = n) = False := eq_false o
   have hi' : n ∈ l ↔ n ∈ l.drop (k + 1):=hi.trans ⟨fun h=>h.elim (fun h=>absurd h.symm o) id,.inr⟩
   repeat' first|(refine hK _ ?_;clear hK)|(refine hK _ _ ?_;clear hK)|(clear hK;refine hK _ ?_;clear hK)|(clear hK;clear hK;refine hK _ ?_;clear hK)|(clear hK;clear hK;clear hK;refine hK _ ?_;clear hK)|(clear hK;clear hK;clear hK;clear hK;refine hK _ ?_;clear hK)|(refine zJ fun K hK=>?_)|((first | refine zH ?_ | refine zN rfl (by kernel_rfl) ?_ | refine zM ?_ | refine zK (by kernel_rfl) ?_);simp only [wJ,wI,strip])|((first | refine wIs fun K hK=>?_ | refine wOs fun K hK=>?_ | refine wQs fun K hK=>?_ | refine zU ?_ | refine zV ?_ | refine zW ?_ | refine zL ?_);simp [h1,h7,h8,h9,hlt,hw,he,hF,o'])|(refine wIn ?_;refine And.intro (by kernel_rfl) ?_;try simp only [zX])|(first | refine zQ ?_ | refine zS ?_)|((first | refine zI ?_ | refine zO ?_ | refine zP ?_);try simp)|((first | refine zR ?_ | refine wOn ?_ | refine wQn ?_);try simp only [zX])
   refine hL _ (N - 1) (by omega) ⟨k + 1,by omega,?_,?_,?_,?_,hi'⟩
   all_goals simp [h1,h7,h8,h9,hw]
 ·rw [List.drop_of_length_le (by omega)] at hi
  rw [decide_eq_false (fun h=>by simpa using hi.1 h)] at hr
  repeat' first|(refine hK _ ?_;clear hK)|(refine hK _ _ ?_;clear hK)|(clear hK;refine hK _ ?_;clear hK)|(clear hK;clear hK;refine hK _ ?_;clear hK)|(clear hK;clear hK;clear hK;refine hK _ ?_;clear hK)|(clear hK;clear hK;clear hK;clear hK;refine hK _ ?_;clear hK)|(refine zJ fun K hK=>?_)|((first | refine zH ?_ | refine zN rfl (by kernel_rfl) ?_ | refine zM ?_ | refine zK (by kernel_rfl) ?_);simp only [wJ,wI,strip])|((first | refine wIs fun K hK=>?_ | refine wOs fun K hK=>?_ | refine wQs fun K hK=>?_ | refine zU ?_ | refine zV ?_ | refine zW ?_ | refine zL ?_);simp [h1,h7,h8,h9,hlt])|(refine wIn ?_;refine And.intro (by kernel_rfl) ?_;try simp only [zX])|(first | refine zQ ?_ | refine zS ?_)|((first | refine zI ?_ | refine zO ?_ | refine zP ?_);try simp)|((first | refine zR ?_ | refine wOn ?_ | refine wQn ?_);try simp only [zX])
  all_goals apply hr
  all_goals simp [Try.f46]
theorem twice06_con (l : List Int) (hl : l.length <= 4611686018427387904) : zF Try.prog 45 [.p (.sl 1 (ints l))] (.p (B (twL l))) := by
 refine zG Try.tab Try.mixed Try.func45 rfl rfl Try.ntmps45 (by simp) (by simp) fun Q hr hn=>?_
 repeat' first|(refine hK _ ?_;clear hK)|(refine hK _ _ ?_;clear hK)|(clear hK;refine hK _ ?_;clear hK)|(clear hK;clear hK;refine hK _ ?_;clear hK)|(clear hK;clear hK;clear hK;refine hK _ ?_;clear hK)|(clear hK;clear hK;clear hK;clear hK;refine hK _ ?_;clear hK)|(refine zJ fun K hK=>?_)|((first | refine zH ?_ | refine zN rfl (by kernel_rfl) ?_ | refine zM ?_ | refine zK (by kernel_rfl) ?_);simp only [wJ,wI,strip])|((first | refine wIs fun K hK=>?_ | refine wOs fun K hK=>?_ | refine wQs fun K hK=>?_ | refine zU ?_ | refine zV ?_ | refine zW ?_ | refine zL ?_);simp)|(refine wIn ?_;refine And.intro (by kernel_rfl) ?_;try simp only [zX])|(first | refine zQ ?_ | refine zS ?_)|((first | refine zI ?_ | refine zO ?_ | refine zP ?_);try simp)|((first | refine zR ?_ | refine wOn ?_ | refine wQn ?_);try simp only [zX])
 refine xS (fun N st=>∃ k,k + N = l.length /\ st.s 0 = .p (.sl 1 (ints l)) /\ st.s 4 = .p (.sl 1 (ints l)) /\ st.s 5 = .p (I l.length) /\ st.s 6 = .p (I k) /\ (l.take k).Nodup) l.length ⟨0,by simp⟩ fun K N st hL ⟨k,hk,h0,h4,h5,h6,hi⟩=>?_
 by_cases hlt : k < l.length
 ·have hw := xY k _ hlt (by omega)
  have hkl : k <= l.length:=by omega
  have he:=ints_get hlt
  have ht:=ints_take l k
  have hc:=has06_con (l.take k) l[k] (by rw [List.length_take];omega)
  have hn:=nodup_snoc l k hlt
  by_cases hm : l[k] ∈ l.take k
  ·rw [decide_eq_true hm] at hc
   have hf : twL l = true:=decide_eq_true (nodup_take (k + 1) fun h=>(hn.1 h).2 hm)
   rw [hf] at hr
   repeat' first|(refine zZ.pure (hc) rfl ?_)|(refine zZ.lent (hc) rfl ?_)|(refine zT.pure (hc) rfl ?_)|(refine zT.lent (hc) rfl ?_)|(refine zZ.own (hc) ?_)|(refine zY.pure (hc) rfl ?_)|(refine zY.lent (hc) rfl ?_)|(refine zY.own (hc) ?_)|(refine hK _ ?_;clear hK)|(refine hK _ _ ?_;clear hK)|(clear hK;refine hK _ ?_;clear hK)|(clear hK;clear hK;refine hK _ ?_;clear hK)|(clear hK;clear hK;clear hK;refine hK _ ?_;clear hK)|(clear hK;clear hK;clear hK;clear hK;refine hK _ ?_;clear hK)|(refine zJ fun K hK=>?_)|((first | refine zH ?_ | refine zN rfl (by kernel_rfl) ?_ | refine zM ?_ | refine zK (by kernel_rfl) ?_);simp only [wJ,wI,strip])|((first | refine wIs fun K hK=>?_ | refine wOs fun K hK=>?_ | refine wQs fun K hK=>?_ | refine zU ?_ | refine zV ?_ | refine zW ?_ | refine zL ?_);simp [h0,h4,h5,h6,hlt,hw,hkl,ht])|(refine wIn ?_;refine And.intro (by kernel_rfl) ?_;try simp only [zX])|(first | refine zQ ?_ | refine zS ?_)|((first | refine zI ?_ | refine zO ?_ | refine zP ?_);try simp)|((first | refine zR ?_ | refine wOn ?_ | refine wQn ?_);try simp only [zX])
   all_goals apply hr
   all_goals simp [Try.f45]
  ·rw [decide_eq_false hm] at hc
   repeat' first|(refine zZ.pure (hc) rfl ?_)|(refine zZ.lent (hc) rfl ?_)|(refine zT.pure (hc) rfl ?_)|(refine zT.lent (hc) rfl ?_)|(refine zZ.own (hc) ?_)|(refine zY.pure (hc) rfl ?_)|(refine zY.lent (hc) rfl ?_)|(refine zY.own (hc) ?_)|(refine hK _ ?_;clear hK)|(refine hK _ _ ?_;clear hK)|(clear hK;refine hK _ ?_;clear hK)|(clear hK;clear hK;refine hK _ ?_;clear hK)|(clear hK;clear hK;clear hK;refine hK _ ?_;clear hK)|(clear hK;clear hK;clear hK;clear hK;refine hK _ ?_;clear hK)|(refine zJ fun K hK=>?_)|((first | refine zH ?_ | refine zN rfl (by kernel_rfl) ?_ | refine zM ?_ | refine zK (by kernel_rfl) ?_);simp only [wJ,wI,strip])|((first | refine wIs fun K hK=>?_ | refine wOs fun K hK=>?_ | refine wQs fun K hK=>?_ | refine zU ?_ | refine zV ?_ | refine zW ?_ | refine zL ?_);simp [h0,h4,h5,h6,hlt,hw,hkl,ht])|(refine wIn ?_;refine And.intro (by kernel_rfl) ?_;try simp only [zX])|(first | refine zQ ?_ | refine zS ?_)|((first | refine zI ?_ | refine zO ?_ | refine zP ?_);try simp)|((first | refine zR ?_ | refine wOn ?_ | refine wQn ?_);try simp only [zX])
   refine hL _ (N - 1) (by omega) ⟨k + 1,by omega,?_,?_,?_,?_,hn.2 ⟨hi,hm⟩⟩
   all_goals simp [h0,h4,h5,h6,hw]
 ·have hf : twL l = false := decide_eq_false (by rw [List.take_of_length_le (by omega)] at hi; simpa using hi)
  rw [hf] at hr
  repeat' first|(refine hK _ ?_;clear hK)|(refine hK _ _ ?_;clear hK)|(clear hK;refine hK _ ?_;clear hK)|(clear hK;clear hK;refine hK _ ?_;clear hK)|(clear hK;clear hK;clear hK;refine hK _ ?_;clear hK)|(clear hK;clear hK;clear hK;clear hK;refine hK _ ?_;clear hK)|(refine zJ fun K hK=>?_)|((first | refine zH ?_ | refine zN rfl (by kernel_rfl) ?_ | refine zM ?_ | refine zK (by kernel_rfl) ?_);simp only [wJ,wI,strip])|((first | refine wIs fun K hK=>?_ | refine wOs fun K hK=>?_ | refine wQs fun K hK=>?_ | refine zU ?_ | refine zV ?_ | refine zW ?_ | refine zL ?_);simp [h0,h4,h5,h6,hlt])|(refine wIn ?_;refine And.intro (by kernel_rfl) ?_;try simp only [zX])|(first | refine zQ ?_ | refine zS ?_)|((first | refine zI ?_ | refine zO ?_ | refine zP ?_);try simp)|((first | refine zR ?_ | refine wOn ?_ | refine wQn ?_);try simp only [zX])
  all_goals apply hr
  all_goals simp [Try.f45]
theorem pids_snoc (l : List Mb) (k : Nat) (h : k < l.length) : ints (wP (l.take k)) ++ [[I l[k].i]] = ints (wP (l.take (k + 1))) := by
 unfold wP ints;rw [List.take_succ_eq_append_getElem h,List.map_append,List.map_append];rfl
theorem ids06_con (l : List Mb) (hl : l.length <= 17592186044000) : zF Try.prog 44 [.p (.sl 4 (mbs l))] (.p (.sl 1 (ints (wP l)))) := by
 refine zG Try.tab Try.mixed Try.func44 rfl rfl Try.ntmps44 (by simp) (by simp) fun Q hr hn=>?_
 repeat' first|(refine hK _ ?_;clear hK)|(refine hK _ _ ?_;clear hK)|(clear hK;refine hK _ ?_;clear hK)|(clear hK;clear hK;refine hK _ ?_;clear hK)|(clear hK;clear hK;clear hK;refine hK _ ?_;clear hK)|(clear hK;clear hK;clear hK;clear hK;refine hK _ ?_;clear hK)|(refine zJ fun K hK=>?_)|((first | refine zH ?_ | refine zN rfl (by kernel_rfl) ?_ | refine zM ?_ | refine zK (by kernel_rfl) ?_);simp only [wJ,wI,strip])|((first | refine wIs fun K hK=>?_ | refine wOs fun K hK=>?_ | refine wQs fun K hK=>?_ | refine zU ?_ | refine zV ?_ | refine zW ?_ | refine zL ?_);simp)|(refine wIn ?_;refine And.intro (by kernel_rfl) ?_;try simp only [zX])|(first | refine zQ ?_ | refine zS ?_)|((first | refine zI ?_ | refine zO ?_ | refine zP ?_);try simp)|((first | refine zR ?_ | refine wOn ?_ | refine wQn ?_);try simp only [zX])
 refine wLoopG [.row 3 3 1] (fun N st=>∃ k,k + N = l.length /\ st.s 3 = .row 3 /\ st.s 6 = .p (.sl 4 (mbs l)) /\ st.s 7 = .p (I l.length) /\ st.s 8 = .p (I k) /\ st.b 3 = some (.row 3 1 (ints (wP (l.take k))))) l.length ⟨0,by simp [wP,ints]⟩ fun K N st hL ⟨k,hk,h3,h6,h7,h8,b3⟩=>?_
 by_cases hlt : k < l.length
 ·have hw := xY k _ hlt (by omega)
  have he:=mbs_get hlt
  have hs:=pids_snoc l k hlt
  have hln : (wP (l.take k)).length = k:=by simp;omega
  generalize wP (l.take k) = P at *
  generalize hQ : wP (l.take (k + 1)) = Q at *
  repeat' first|(refine And.intro (by (try simp only [ints_len,hln]);omega) ?_)|(refine hK _ ?_;clear hK)|(refine hK _ _ ?_;clear hK)|(clear hK;refine hK _ ?_;clear hK)|(clear hK;clear hK;refine hK _ ?_;clear hK)|(clear hK;clear hK;clear hK;refine hK _ ?_;clear hK)|(clear hK;clear hK;clear hK;clear hK;refine hK _ ?_;clear hK)|(refine zJ fun K hK=>?_)|((first | refine zH ?_ | refine zN rfl (by kernel_rfl) ?_ | refine zM ?_ | refine zK (by kernel_rfl) ?_);simp only [wJ,wI,strip])|((first | refine wIs fun K hK=>?_ | refine wOs fun K hK=>?_ | refine wQs fun K hK=>?_ | refine zU ?_ | refine zV ?_ | refine zW ?_ | refine zL ?_);simp [h3,h6,h7,h8,b3,hlt,hw,he,hs])|(refine wIn ?_;refine And.intro (by kernel_rfl) ?_;try simp only [zX])|(first | refine zQ ?_ | refine zS ?_)|((first | refine zI ?_ | refine zO ?_ | refine zP ?_);try simp)|((first | refine zR ?_ | refine wOn ?_ | refine wQn ?_);try simp only [zX])
  refine hL _ (N - 1) (by omega) ⟨k + 1,by omega,?_⟩
  simp [h3,h6,h7,h8,b3,hw,hs,hQ]
 ·rw [List.take_of_length_le (by omega)] at b3
  generalize wP l = P at *
  repeat' first|(refine hK _ ?_;clear hK)|(refine hK _ _ ?_;clear hK)|(clear hK;refine hK _ ?_;clear hK)|(clear hK;clear hK;refine hK _ ?_;clear hK)|(clear hK;clear hK;clear hK;refine hK _ ?_;clear hK)|(clear hK;clear hK;clear hK;clear hK;refine hK _ ?_;clear hK)|(refine zJ fun K hK=>?_)|((first | refine zH ?_ | refine zN rfl (by kernel_rfl) ?_ | refine zM ?_ | refine zK (by kernel_rfl) ?_);simp only [wJ,wI,strip])|((first | refine wIs fun K hK=>?_ | refine wOs fun K hK=>?_ | refine wQs fun K hK=>?_ | refine zU ?_ | refine zV ?_ | refine zW ?_ | refine zL ?_);simp [h3,h6,h7,h8,b3,hlt])|(refine wIn ?_;refine And.intro (by kernel_rfl) ?_;try simp only [zX])|(first | refine zQ ?_ | refine zS ?_)|((first | refine zI ?_ | refine zO ?_ | refine zP ?_);try simp)|((first | refine zR ?_ | refine wOn ?_ | refine wQn ?_);try simp only [zX])
  all_goals apply hr
  all_goals simp [Try.f44,h3,b3]
theorem find06_con (c : Cf) (id : Int) (hl : c.ms.length <= 1000000) : zF Try.prog 47 [.p (.agg c.cells), .p (I id)] (.tup [.p (.agg (fm id c.ms).1.cells), .p (B (fm id c.ms).2)]) := by
 obtain ⟨ep,n,kind,l⟩:=c
 simp only [Cf.cells] at hl ⊢
 refine zG Try.tab Try.mixed Try.func47 rfl rfl Try.ntmps47 (by simp) (by simp) fun Q hr hn=>?_
 repeat' first|(refine hK _ ?_;clear hK)|(refine hK _ _ ?_;clear hK)|(clear hK;refine hK _ ?_;clear hK)|(clear hK;clear hK;refine hK _ ?_;clear hK)|(clear hK;clear hK;clear hK;refine hK _ ?_;clear hK)|(clear hK;clear hK;clear hK;clear hK;refine hK _ ?_;clear hK)|(refine zJ fun K hK=>?_)|((first | refine zH ?_ | refine zN rfl (by kernel_rfl) ?_ | refine zM ?_ | refine zK (by kernel_rfl) ?_);simp only [wJ,wI,strip])|((first | refine wIs fun K hK=>?_ | refine wOs fun K hK=>?_ | refine wQs fun K hK=>?_ | refine zU ?_ | refine zV ?_ | refine zW ?_ | refine zL ?_);simp)|(refine wIn ?_;refine And.intro (by kernel_rfl) ?_;try simp only [zX])|(first | refine zQ ?_ | refine zS ?_)|((first | refine zI ?_ | refine zO ?_ | refine zP ?_);try simp)|((first | refine zR ?_ | refine wOn ?_ | refine wQn ?_);try simp only [zX])
 refine xS (fun N st=>∃ (k : Nat),k + N = l.length /\ st.s 1 = .p (I id) /\ st.s 4 = .ptr 4 0 /\ st.b 4 = some (.box 86 [.p (I 0),.p (I 0),.p (I 0),.p (I 0)]) /\ st.s 9 = .p (.sl 4 (mbs l)) /\ st.s 10 = .p (I l.length) /\ st.s 11 = .p (I k) /\ fm id (l.drop k) = fm id l) l.length ⟨0,by simp⟩ fun K N st hL ⟨k,hk,h1,h4,b4,h9,h10,h11,hi⟩=>?_
 by_cases hlt : k < l.length
 ·have hw := xY k _ hlt (by omega)
  rw [List.drop_eq_getElem_cons hlt,fm] at hi
  by_cases o : l[k].i = id
  ·rw [if_pos o] at hi
   repeat' first|(refine hK _ ?_;clear hK)|(refine hK _ _ ?_;clear hK)|(clear hK;refine hK _ ?_;clear hK)|(clear hK;clear hK;refine hK _ ?_;clear hK)|(clear hK;clear hK;clear hK;refine hK _ ?_;clear hK)|(clear hK;clear hK;clear hK;clear hK;refine hK _ ?_;clear hK)|(refine zJ fun K hK=>?_)|((first | refine zH ?_ | refine zN rfl (by kernel_rfl) ?_ | refine zM ?_ | refine zK (by kernel_rfl) ?_);simp only [wJ,wI,strip])|((first | refine wIs fun K hK=>?_ | refine wOs fun K hK=>?_ | refine wQs fun K hK=>?_ | refine zU ?_ | refine zV ?_ | refine zW ?_ | refine zL ?_);simp [h1,h4,b4,h9,h10,h11,hlt,hw,o])|(refine wIn ?_;refine And.intro (by kernel_rfl) ?_;try simp only [zX])|(first | refine zQ ?_ | refine zS ?_)|((first | refine zI ?_ | refine zO ?_ | refine zP ?_);try simp)|((first | refine zR ?_ | refine wOn ?_ | refine wQn ?_);try simp only [zX])
   all_goals apply hr
   all_goals rw [<- hi]
   all_goals simp [Try.f47,Mb.cells,o,h4,b4]
  ·rw [if_neg o] at hi
   repeat' first|(refine hK _ ?_;clear hK)|(refine hK _ _ ?_;clear hK)|(clear hK;refine hK _ ?_;clear hK)|(clear hK;clear hK;refine hK _ ?_;clear hK)|(clear hK;clear hK;clear hK;refine hK _ ?_;clear hK)|(clear hK;clear hK;clear hK;clear hK;refine hK _ ?_;clear hK)|(refine zJ fun K hK=>?_)|((first | refine zH ?_ | refine zN rfl (by kernel_rfl) ?_ | refine zM ?_ | refine zK (by kernel_rfl) ?_);simp only [wJ,wI,strip])|((first | refine wIs fun K hK=>?_ | refine wOs fun K hK=>?_ | refine wQs fun K hK=>?_ | refine zU ?_ | refine zV ?_ | refine zW ?_ | refine zL ?_);simp [h1,h4,b4,h9,h10,h11,hlt,hw,o])|(refine wIn ?_;refine And.intro (by kernel_rfl) ?_;try simp only [zX])|(first | refine zQ ?_ | refine zS ?_)|((first | refine zI ?_ | refine zO ?_ | refine zP ?_);try simp)|((first | refine zR ?_ | refine wOn ?_ | refine wQn ?_);try simp only [zX])
   refine hL _ (N - 1) (by omega) ⟨k + 1,by omega,?_⟩
   simp [h1,h4,b4,h9,h10,hw,hi]
 ·rw [List.drop_of_length_le (by omega), fm] at hi
  repeat' first|(refine hK _ ?_;clear hK)|(refine hK _ _ ?_;clear hK)|(clear hK;refine hK _ ?_;clear hK)|(clear hK;clear hK;refine hK _ ?_;clear hK)|(clear hK;clear hK;clear hK;refine hK _ ?_;clear hK)|(clear hK;clear hK;clear hK;clear hK;refine hK _ ?_;clear hK)|(refine zJ fun K hK=>?_)|((first | refine zH ?_ | refine zN rfl (by kernel_rfl) ?_ | refine zM ?_ | refine zK (by kernel_rfl) ?_);simp only [wJ,wI,strip])|((first | refine wIs fun K hK=>?_ | refine wOs fun K hK=>?_ | refine wQs fun K hK=>?_ | refine zU ?_ | refine zV ?_ | refine zW ?_ | refine zL ?_);simp [h1,h4,b4,h9,h10,h11,hlt])|(refine wIn ?_;refine And.intro (by kernel_rfl) ?_;try simp only [zX])|(first | refine zQ ?_ | refine zS ?_)|((first | refine zI ?_ | refine zO ?_ | refine zP ?_);try simp)|((first | refine zR ?_ | refine wOn ?_ | refine wQn ?_);try simp only [zX])
  apply hr
  rw [<- hi]
  simp [Try.f47,Mb.cells,h4,b4]
theorem hasI_pids (l : List Mb) (id : Int) : hasI l id = decide (id ∈ wP l) := by
 rw [Bool.eq_iff_iff]
 simp only [hasI,wP,List.any_eq_true,decide_eq_true_eq,List.mem_map]
theorem stS_perm (c : Cf) (d : Dl) : stS (yC c d ++ d.put) = wQ (d.put ++ yC c d) := by
 rw [stS_srt]
 refine Sb.eq (srt_ord _) (srt_ord _) ((srt_sb _).trans (Sb.trans (Sb.swap fun a ha b hb h=>?_) (srt_sb _).symm))
 unfold yC at hb
 obtain ⟨-,h2⟩:=List.mem_filter.1 hb
 simp only [Bool.and_eq_true,Bool.not_eq_true',decide_eq_false_iff_not] at h2
 rw [hasI_pids,decide_eq_false_iff_not] at h2
 exact h2.2 (List.mem_map.2 ⟨a,ha,h⟩)
def app06 (c : Cf) (d : Dl) (e n : Int) : Cf := if appE c d e n = 0 then { chg c d with ep := e, n := n } else ⟨0, 0, 0, []⟩
theorem keep06_snoc (dr : List Int) (put ms : List Mb) (ep n kind dk : Int) (k : Nat) (h : k < ms.length) : put ++ yC ⟨ep, n, kind, ms.take (k + 1)⟩ ⟨dk, put, dr⟩ = if ms[k].i ∈ dr then put ++ yC ⟨ep, n, kind, ms.take k⟩ ⟨dk, put, dr⟩ else if ms[k].i ∈ wP put then put ++ yC ⟨ep, n, kind, ms.take k⟩ ⟨dk, put, dr⟩ else (put ++ yC ⟨ep, n, kind, ms.take k⟩ ⟨dk, put, dr⟩) ++ [ms[k]] := by
 rw [keepM_snoc _ _ _ _ _ _ _ _ h]
 by_cases o1 : ms[k].i ∈ dr
 ·rw [if_pos o1,if_pos o1]
 rw [if_neg o1,if_neg o1]
 by_cases o2 : ms[k].i ∈ wP put
 ·rw [if_pos o2,if_pos (by rw [hasI_pids];exact decide_eq_true o2)]
 ·rw [if_neg o2,if_neg (by rw [hasI_pids,decide_eq_false o2];simp),List.append_assoc]
end Go.Proofs.Ytpilcadofjcdoaa
namespace Go.Proofs.Ytpilcadofjcdoaa
set_option linter.unusedSimpArgs false
set_option linter.unusedVariables false
open Go Go.Av
attribute [local irreducible] Go.Av.yQ Go.Av.zZ Go.Av.yG Go.Av.zT Go.Av.yH Go.Av.zY Go.Av.Con
set_option maxHeartbeats 8000000 in
theorem check04u_con (c : Cf) : zF Try.prog 13 [.p (.agg c.cells)] (.p (I (check c))) := by
 obtain ⟨ep,n,kind,l⟩:=c
 simp only [Cf.cells,check,ranged]
 by_cases g1 : kind < 1
 ·have g1' : ¬ 1 <= kind := by omega
  refine zG Try.tab Try.mixed Try.func13 rfl rfl Try.ntmps13 (by simp) (by simp) fun Q hr hn=>?_
  repeat' first|(refine hK _ ?_;clear hK)|(refine hK _ _ ?_;clear hK)|(clear hK;refine hK _ ?_;clear hK)|(clear hK;clear hK;refine hK _ ?_;clear hK)|(clear hK;clear hK;clear hK;refine hK _ ?_;clear hK)|(clear hK;clear hK;clear hK;clear hK;refine hK _ ?_;clear hK)|(refine zJ fun K hK=>?_)|((first | refine zH ?_ | refine zN rfl (by kernel_rfl) ?_ | refine zM ?_ | refine zK (by kernel_rfl) ?_);simp only [wJ,wI,strip])|((first | refine wIs fun K hK=>?_ | refine wOs fun K hK=>?_ | refine wQs fun K hK=>?_ | refine zU ?_ | refine zV ?_ | refine zW ?_ | refine zL ?_);simp [g1])|(refine wIn ?_;refine And.intro (by kernel_rfl) ?_;try simp only [zX])|(first | refine zQ ?_ | refine zS ?_)|((first | refine zI ?_ | refine zO ?_ | refine zP ?_);try simp)|((first | refine zR ?_ | refine wOn ?_ | refine wQn ?_);try simp only [zX])
  all_goals apply hr
  all_goals simp [Try.f13,g1']
 by_cases g2 : 3 < kind
 ·have g2' : ¬ kind <= 3 := by omega
  refine zG Try.tab Try.mixed Try.func13 rfl rfl Try.ntmps13 (by simp) (by simp) fun Q hr hn=>?_
  repeat' first|(refine hK _ ?_;clear hK)|(refine hK _ _ ?_;clear hK)|(clear hK;refine hK _ ?_;clear hK)|(clear hK;clear hK;refine hK _ ?_;clear hK)|(clear hK;clear hK;clear hK;refine hK _ ?_;clear hK)|(clear hK;clear hK;clear hK;clear hK;refine hK _ ?_;clear hK)|(refine zJ fun K hK=>?_)|((first | refine zH ?_ | refine zN rfl (by kernel_rfl) ?_ | refine zM ?_ | refine zK (by kernel_rfl) ?_);simp only [wJ,wI,strip])|((first | refine wIs fun K hK=>?_ | refine wOs fun K hK=>?_ | refine wQs fun K hK=>?_ | refine zU ?_ | refine zV ?_ | refine zW ?_ | refine zL ?_);simp [g1,g2])|(refine wIn ?_;refine And.intro (by kernel_rfl) ?_;try simp only [zX])|(first | refine zQ ?_ | refine zS ?_)|((first | refine zI ?_ | refine zO ?_ | refine zP ?_);try simp)|((first | refine zR ?_ | refine wOn ?_ | refine wQn ?_);try simp only [zX])
  all_goals apply hr
  all_goals simp [Try.f13,g2']
 by_cases g3 : ep < 0
 ·have g3' : ¬ 0 <= ep := by omega
  refine zG Try.tab Try.mixed Try.func13 rfl rfl Try.ntmps13 (by simp) (by simp) fun Q hr hn=>?_
  repeat' first|(refine hK _ ?_;clear hK)|(refine hK _ _ ?_;clear hK)|(clear hK;refine hK _ ?_;clear hK)|(clear hK;clear hK;refine hK _ ?_;clear hK)|(clear hK;clear hK;clear hK;refine hK _ ?_;clear hK)|(clear hK;clear hK;clear hK;clear hK;refine hK _ ?_;clear hK)|(refine zJ fun K hK=>?_)|((first | refine zH ?_ | refine zN rfl (by kernel_rfl) ?_ | refine zM ?_ | refine zK (by kernel_rfl) ?_);simp only [wJ,wI,strip])|((first | refine wIs fun K hK=>?_ | refine wOs fun K hK=>?_ | refine wQs fun K hK=>?_ | refine zU ?_ | refine zV ?_ | refine zW ?_ | refine zL ?_);simp [g1,g2,g3])|(refine wIn ?_;refine And.intro (by kernel_rfl) ?_;try simp only [zX])|(first | refine zQ ?_ | refine zS ?_)|((first | refine zI ?_ | refine zO ?_ | refine zP ?_);try simp)|((first | refine zR ?_ | refine wOn ?_ | refine wQn ?_);try simp only [zX])
  all_goals apply hr
  all_goals simp [Try.f13,g3']
 by_cases g4 : 1099511627776 < ep
 ·have g4' : ¬ ep <= 1099511627776 := by omega
  refine zG Try.tab Try.mixed Try.func13 rfl rfl Try.ntmps13 (by simp) (by simp) fun Q hr hn=>?_
  repeat' first|(refine hK _ ?_;clear hK)|(refine hK _ _ ?_;clear hK)|(clear hK;refine hK _ ?_;clear hK)|(clear hK;clear hK;refine hK _ ?_;clear hK)|(clear hK;clear hK;clear hK;refine hK _ ?_;clear hK)|(clear hK;clear hK;clear hK;clear hK;refine hK _ ?_;clear hK)|(refine zJ fun K hK=>?_)|((first | refine zH ?_ | refine zN rfl (by kernel_rfl) ?_ | refine zM ?_ | refine zK (by kernel_rfl) ?_);simp only [wJ,wI,strip])|((first | refine wIs fun K hK=>?_ | refine wOs fun K hK=>?_ | refine wQs fun K hK=>?_ | refine zU ?_ | refine zV ?_ | refine zW ?_ | refine zL ?_);simp [g1,g2,g3,g4])|(refine wIn ?_;refine And.intro (by kernel_rfl) ?_;try simp only [zX])|(first | refine zQ ?_ | refine zS ?_)|((first | refine zI ?_ | refine zO ?_ | refine zP ?_);try simp)|((first | refine zR ?_ | refine wOn ?_ | refine wQn ?_);try simp only [zX])
  all_goals apply hr
  all_goals simp [Try.f13,g4']
 by_cases g5 : n < 0
 ·have g5' : ¬ 0 <= n := by omega
  refine zG Try.tab Try.mixed Try.func13 rfl rfl Try.ntmps13 (by simp) (by simp) fun Q hr hn=>?_
  repeat' first|(refine hK _ ?_;clear hK)|(refine hK _ _ ?_;clear hK)|(clear hK;refine hK _ ?_;clear hK)|(clear hK;clear hK;refine hK _ ?_;clear hK)|(clear hK;clear hK;clear hK;refine hK _ ?_;clear hK)|(clear hK;clear hK;clear hK;clear hK;refine hK _ ?_;clear hK)|(refine zJ fun K hK=>?_)|((first | refine zH ?_ | refine zN rfl (by kernel_rfl) ?_ | refine zM ?_ | refine zK (by kernel_rfl) ?_);simp only [wJ,wI,strip])|((first | refine wIs fun K hK=>?_ | refine wOs fun K hK=>?_ | refine wQs fun K hK=>?_ | refine zU ?_ | refine zV ?_ | refine zW ?_ | refine zL ?_);simp [g1,g2,g3,g4,g5])|(refine wIn ?_;refine And.intro (by kernel_rfl) ?_;try simp only [zX])|(first | refine zQ ?_ | refine zS ?_)|((first | refine zI ?_ | refine zO ?_ | refine zP ?_);try simp)|((first | refine zR ?_ | refine wOn ?_ | refine wQn ?_);try simp only [zX])
  all_goals apply hr
  all_goals simp [Try.f13,g5']
 by_cases g6 : 1099511627776 < n
 ·have g6' : ¬ n <= 1099511627776 := by omega
  refine zG Try.tab Try.mixed Try.func13 rfl rfl Try.ntmps13 (by simp) (by simp) fun Q hr hn=>?_
  repeat' first|(refine hK _ ?_;clear hK)|(refine hK _ _ ?_;clear hK)|(clear hK;refine hK _ ?_;clear hK)|(clear hK;clear hK;refine hK _ ?_;clear hK)|(clear hK;clear hK;clear hK;refine hK _ ?_;clear hK)|(clear hK;clear hK;clear hK;clear hK;refine hK _ ?_;clear hK)|(refine zJ fun K hK=>?_)|((first | refine zH ?_ | refine zN rfl (by kernel_rfl) ?_ | refine zM ?_ | refine zK (by kernel_rfl) ?_);simp only [wJ,wI,strip])|((first | refine wIs fun K hK=>?_ | refine wOs fun K hK=>?_ | refine wQs fun K hK=>?_ | refine zU ?_ | refine zV ?_ | refine zW ?_ | refine zL ?_);simp [g1,g2,g3,g4,g5,g6])|(refine wIn ?_;refine And.intro (by kernel_rfl) ?_;try simp only [zX])|(first | refine zQ ?_ | refine zS ?_)|((first | refine zI ?_ | refine zO ?_ | refine zP ?_);try simp)|((first | refine zR ?_ | refine wOn ?_ | refine wQn ?_);try simp only [zX])
  all_goals apply hr
  all_goals simp [Try.f13,g6']
 rw [if_pos ⟨⟨by omega,by omega⟩,⟨by omega,by omega⟩,⟨by omega,by omega⟩⟩]
 refine zG Try.tab Try.mixed Try.func13 rfl rfl Try.ntmps13 (by simp) (by simp) fun Q hr hn=>?_
 repeat' first|(refine hK _ ?_;clear hK)|(refine hK _ _ ?_;clear hK)|(clear hK;refine hK _ ?_;clear hK)|(clear hK;clear hK;refine hK _ ?_;clear hK)|(clear hK;clear hK;clear hK;refine hK _ ?_;clear hK)|(clear hK;clear hK;clear hK;clear hK;refine hK _ ?_;clear hK)|(refine zJ fun K hK=>?_)|((first | refine zH ?_ | refine zN rfl (by kernel_rfl) ?_ | refine zM ?_ | refine zK (by kernel_rfl) ?_);simp only [wJ,wI,strip])|((first | refine wIs fun K hK=>?_ | refine wOs fun K hK=>?_ | refine wQs fun K hK=>?_ | refine zU ?_ | refine zV ?_ | refine zW ?_ | refine zL ?_);simp [g1,g2,g3,g4,g5,g6])|(refine wIn ?_;refine And.intro (by kernel_rfl) ?_;try simp only [zX])|(first | refine zQ ?_ | refine zS ?_)|((first | refine zI ?_ | refine zO ?_ | refine zP ?_);try simp)|((first | refine zR ?_ | refine wOn ?_ | refine wQn ?_);try simp only [zX])
 refine xS (fun N st => ∃ (k : Nat) (a b : Int), k + N = l.length /\ st.s 1 = .ptr 1 0 /\ st.b 1 = some (.box 28 [.p (I ep), .p (I n), .p (I kind), .p (.sl 4 (mbs l))]) /\ st.s 40 = .p (.sl 4 (mbs l)) /\ st.s 41 = .p (I l.length) /\ st.s 42 = .p (I k) /\ st.s 3 = .p (I a) /\ st.s 4 = .p (I b) /\ fine (prevI l k) (l.drop k) = fine (-1) l /\ ((k : Int) <= prevI l k + 1 /\ prevI l k <= 15) ∧
  (0 <= a /\ a <= 100 * k /\ a + wsum (l.drop k) = wsum l) /\ (0 <= b /\ b <= k /\ b + cnt (l.drop k) = cnt l)) l.length ⟨0,0,0,by simp [prevI_zero]⟩ fun K N st hL ⟨k,a,b,hk,h1,b1,h40,h41,h42,h3,h4,hi,⟨hp1,hp2⟩,⟨ha0,ha1,ha⟩,⟨hb0,hb1,hb⟩⟩=>?_
 by_cases hlt : k < l.length
 ·have hw := xY k 17 (by omega) (by omega)
  have hwb : IntKind.i64.wrap (b + 1) = b + 1:=by rw [yW] <;> omega
  rw [List.drop_eq_getElem_cons hlt,fine] at hi
  rw [List.drop_eq_getElem_cons hlt,wsum] at ha
  rw [List.drop_eq_getElem_cons hlt,cnt] at hb
  have cr:=ok04_con l[k]
  simp only [Mb.cells] at cr
  by_cases o1 : okM l[k]
  ·rw [decide_eq_true o1] at cr
   have hw0:=o1.2.2.1
   have hi0:=o1.1
   have hwa : IntKind.i64.wrap (a + l[k].w) = a + l[k].w:=by rw [yW] <;> omega
   by_cases o2 : 0 < k
   ·have o2' : (0 : Int) < k := by omega
    have hw1 : IntKind.i64.wrap ((k : Int) - 1) = ((k - 1 : Nat) : Int):=by rw [yW] <;> omega
    have hk1 : k - 1 < l.length:=by omega
    rw [prevI_pos l k o2 hlt] at hi hp1 hp2
    by_cases o3 : l[k].i <= l[k - 1].i
    ·repeat' first | (refine hK _ ?_; clear hK) | (refine hK _ _ ?_; clear hK) | (clear hK; refine hK _ ?_; clear hK) | (clear hK; clear hK; refine hK _ ?_; clear hK) | (clear hK; clear hK; clear hK; refine hK _ ?_; clear hK) | (clear hK; clear hK; clear hK; clear hK; refine hK _ ?_; clear hK) | (refine zJ fun K hK => ?_) | ((first | refine zH ?_ | refine zN rfl (by kernel_rfl) ?_ | refine zM ?_ | refine zK (by kernel_rfl) ?_); simp only [wJ, wI, strip]) | ((first | refine wIs fun K hK => ?_ | refine wOs fun K hK => ?_ | refine wQs fun K hK => ?_ | refine zU ?_ | refine zV ?_ | refine zW ?_ | refine zL ?_); simp [h1, b1, h40, h41, h42, h3, h4, hlt, hw, o2, o2', hw1, hk1, o3]) | (refine wIn ?_; refine And.intro (by kernel_rfl) ?_; try simp only [zX]) | (first | refine zQ ?_ | refine zS ?_) | ((first | refine zI ?_ | refine zO ?_ | refine zP ?_); try simp) | ((first | refine zR ?_ | refine wOn ?_ | refine wQn ?_); try simp only [zX]) | (refine zZ.pure (cr) rfl ?_) | (refine zZ.lent (cr) rfl ?_) | (refine zT.pure (cr) rfl ?_) | (refine zT.lent (cr) rfl ?_) | (refine zZ.own (cr) ?_) | (refine zY.pure (cr) rfl ?_) | (refine zY.lent (cr) rfl ?_) | (refine zY.own (cr) ?_)
     all_goals apply hr
     all_goals simp [Try.f13]
     all_goals rw [decide_eq_false (by omega)] at hi
     all_goals simp [<- hi]
    ·rw [decide_eq_true ⟨o1, by omega⟩, Bool.true_and] at hi
     by_cases o4 : l[k].r = 1
     ·rw [o4] at cr
      repeat' first|(refine hK _ ?_;clear hK)|(refine hK _ _ ?_;clear hK)|(clear hK;refine hK _ ?_;clear hK)|(clear hK;clear hK;refine hK _ ?_;clear hK)|(clear hK;clear hK;clear hK;refine hK _ ?_;clear hK)|(clear hK;clear hK;clear hK;clear hK;refine hK _ ?_;clear hK)|(refine zJ fun K hK=>?_)|((first | refine zH ?_ | refine zN rfl (by kernel_rfl) ?_ | refine zM ?_ | refine zK (by kernel_rfl) ?_);simp only [wJ,wI,strip])|((first | refine wIs fun K hK=>?_ | refine wOs fun K hK=>?_ | refine wQs fun K hK=>?_ | refine zU ?_ | refine zV ?_ | refine zW ?_ | refine zL ?_);simp [h1,b1,h40,h41,h42,h3,h4,hlt,hw,o2,o2',hw1,hk1,o3,o4,hwa,hwb])|(refine wIn ?_;refine And.intro (by kernel_rfl) ?_;try simp only [zX])|(first | refine zQ ?_ | refine zS ?_)|((first | refine zI ?_ | refine zO ?_ | refine zP ?_);try simp)|((first | refine zR ?_ | refine wOn ?_ | refine wQn ?_);try simp only [zX])|(refine zZ.pure (cr) rfl ?_)|(refine zZ.lent (cr) rfl ?_)|(refine zT.pure (cr) rfl ?_)|(refine zT.lent (cr) rfl ?_)|(refine zZ.own (cr) ?_)|(refine zY.pure (cr) rfl ?_)|(refine zY.lent (cr) rfl ?_)|(refine zY.own (cr) ?_)
      refine hL _ (N - 1) (by omega) ⟨k + 1,a + l[k].w,b + 1,by omega,?_⟩
      rw [if_pos o4] at ha hb
      simp [h1,b1,h40,h41,hw,hwa,hwb]
      rw [xH l k hlt]
      refine ⟨hi,⟨by omega,by omega⟩,⟨by omega,by omega,by omega⟩,by omega,by omega⟩
     ·repeat' first | (refine hK _ ?_; clear hK) | (refine hK _ _ ?_; clear hK) | (clear hK; refine hK _ ?_; clear hK) | (clear hK; clear hK; refine hK _ ?_; clear hK) | (clear hK; clear hK; clear hK; refine hK _ ?_; clear hK) | (clear hK; clear hK; clear hK; clear hK; refine hK _ ?_; clear hK) | (refine zJ fun K hK => ?_) | ((first | refine zH ?_ | refine zN rfl (by kernel_rfl) ?_ | refine zM ?_ | refine zK (by kernel_rfl) ?_); simp only [wJ, wI, strip]) | ((first | refine wIs fun K hK => ?_ | refine wOs fun K hK => ?_ | refine wQs fun K hK => ?_ | refine zU ?_ | refine zV ?_ | refine zW ?_ | refine zL ?_); simp [h1, b1, h40, h41, h42, h3, h4, hlt, hw, o2, o2', hw1, hk1, o3, o4]) | (refine wIn ?_; refine And.intro (by kernel_rfl) ?_; try simp only [zX]) | (first | refine zQ ?_ | refine zS ?_) | ((first | refine zI ?_ | refine zO ?_ | refine zP ?_); try simp) | ((first | refine zR ?_ | refine wOn ?_ | refine wQn ?_); try simp only [zX]) | (refine zZ.pure (cr) rfl ?_) | (refine zZ.lent (cr) rfl ?_) | (refine zT.pure (cr) rfl ?_) | (refine zT.lent (cr) rfl ?_) | (refine zZ.own (cr) ?_) | (refine zY.pure (cr) rfl ?_) | (refine zY.lent (cr) rfl ?_) | (refine zY.own (cr) ?_)
      refine hL _ (N - 1) (by omega) ⟨k + 1,a,b,by omega,?_⟩
      rw [if_neg o4] at ha hb
      simp [h1,b1,h40,h41,h3,h4,hw]
      rw [xH l k hlt]
      refine ⟨hi,⟨by omega,by omega⟩,⟨by omega,by omega,by omega⟩,by omega,by omega,by omega⟩
   ·obtain rfl : k = 0 := by omega
    have:=o1.1.1
    have:=o1.1.2
    rw [prevI_zero,decide_eq_true ⟨o1,by omega⟩,Bool.true_and] at hi
    simp at h42 hw
    by_cases o4 : l[0].r = 1
    ·rw [o4] at cr
     repeat' first|(refine hK _ ?_;clear hK)|(refine hK _ _ ?_;clear hK)|(clear hK;refine hK _ ?_;clear hK)|(clear hK;clear hK;refine hK _ ?_;clear hK)|(clear hK;clear hK;clear hK;refine hK _ ?_;clear hK)|(clear hK;clear hK;clear hK;clear hK;refine hK _ ?_;clear hK)|(refine zJ fun K hK=>?_)|((first | refine zH ?_ | refine zN rfl (by kernel_rfl) ?_ | refine zM ?_ | refine zK (by kernel_rfl) ?_);simp only [wJ,wI,strip])|((first | refine wIs fun K hK=>?_ | refine wOs fun K hK=>?_ | refine wQs fun K hK=>?_ | refine zU ?_ | refine zV ?_ | refine zW ?_ | refine zL ?_);simp [h1,b1,h40,h41,h42,h3,h4,hlt,hw,o4,hwa,hwb])|(refine wIn ?_;refine And.intro (by kernel_rfl) ?_;try simp only [zX])|(first | refine zQ ?_ | refine zS ?_)|((first | refine zI ?_ | refine zO ?_ | refine zP ?_);try simp)|((first | refine zR ?_ | refine wOn ?_ | refine wQn ?_);try simp only [zX])|(refine zZ.pure (cr) rfl ?_)|(refine zZ.lent (cr) rfl ?_)|(refine zT.pure (cr) rfl ?_)|(refine zT.lent (cr) rfl ?_)|(refine zZ.own (cr) ?_)|(refine zY.pure (cr) rfl ?_)|(refine zY.lent (cr) rfl ?_)|(refine zY.own (cr) ?_)
     refine hL _ (N - 1) (by omega) ⟨0 + 1,a + l[0].w,b + 1,by omega,?_⟩
     rw [if_pos o4] at ha hb
     rw [xH l 0 hlt]
     simp [h1,b1,h40,h41,hw,hwa,hwb]
     rw [<- List.drop_one]
     simp only [Nat.zero_add] at ha hb hi
     refine ⟨hi,⟨by omega,by omega⟩,⟨by omega,by omega,by omega⟩,by omega,by omega,by omega⟩
    ·repeat' first | (refine hK _ ?_; clear hK) | (refine hK _ _ ?_; clear hK) | (clear hK; refine hK _ ?_; clear hK) | (clear hK; clear hK; refine hK _ ?_; clear hK) | (clear hK; clear hK; clear hK; refine hK _ ?_; clear hK) | (clear hK; clear hK; clear hK; clear hK; refine hK _ ?_; clear hK) | (refine zJ fun K hK => ?_) | ((first | refine zH ?_ | refine zN rfl (by kernel_rfl) ?_ | refine zM ?_ | refine zK (by kernel_rfl) ?_); simp only [wJ, wI, strip]) | ((first | refine wIs fun K hK => ?_ | refine wOs fun K hK => ?_ | refine wQs fun K hK => ?_ | refine zU ?_ | refine zV ?_ | refine zW ?_ | refine zL ?_); simp [h1, b1, h40, h41, h42, h3, h4, hlt, hw, o4]) | (refine wIn ?_; refine And.intro (by kernel_rfl) ?_; try simp only [zX]) | (first | refine zQ ?_ | refine zS ?_) | ((first | refine zI ?_ | refine zO ?_ | refine zP ?_); try simp) | ((first | refine zR ?_ | refine wOn ?_ | refine wQn ?_); try simp only [zX]) | (refine zZ.pure (cr) rfl ?_) | (refine zZ.lent (cr) rfl ?_) | (refine zT.pure (cr) rfl ?_) | (refine zT.lent (cr) rfl ?_) | (refine zZ.own (cr) ?_) | (refine zY.pure (cr) rfl ?_) | (refine zY.lent (cr) rfl ?_) | (refine zY.own (cr) ?_)
     refine hL _ (N - 1) (by omega) ⟨0 + 1,a,b,by omega,?_⟩
     rw [if_neg o4] at ha hb
     rw [xH l 0 hlt]
     simp [h1,b1,h40,h41,h3,h4,hw]
     rw [<- List.drop_one]
     simp only [Nat.zero_add] at ha hb hi
     refine ⟨hi,⟨by omega,by omega⟩,⟨by omega,by omega,by omega⟩,by omega,by omega,by omega⟩
  ·rw [decide_eq_false o1] at cr
   repeat' first|(refine hK _ ?_;clear hK)|(refine hK _ _ ?_;clear hK)|(clear hK;refine hK _ ?_;clear hK)|(clear hK;clear hK;refine hK _ ?_;clear hK)|(clear hK;clear hK;clear hK;refine hK _ ?_;clear hK)|(clear hK;clear hK;clear hK;clear hK;refine hK _ ?_;clear hK)|(refine zJ fun K hK=>?_)|((first | refine zH ?_ | refine zN rfl (by kernel_rfl) ?_ | refine zM ?_ | refine zK (by kernel_rfl) ?_);simp only [wJ,wI,strip])|((first | refine wIs fun K hK=>?_ | refine wOs fun K hK=>?_ | refine wQs fun K hK=>?_ | refine zU ?_ | refine zV ?_ | refine zW ?_ | refine zL ?_);simp [h1,b1,h40,h41,h42,h3,h4,hlt,hw])|(refine wIn ?_;refine And.intro (by kernel_rfl) ?_;try simp only [zX])|(first | refine zQ ?_ | refine zS ?_)|((first | refine zI ?_ | refine zO ?_ | refine zP ?_);try simp)|((first | refine zR ?_ | refine wOn ?_ | refine wQn ?_);try simp only [zX])|(refine zZ.pure (cr) rfl ?_)|(refine zZ.lent (cr) rfl ?_)|(refine zT.pure (cr) rfl ?_)|(refine zT.lent (cr) rfl ?_)|(refine zZ.own (cr) ?_)|(refine zY.pure (cr) rfl ?_)|(refine zY.lent (cr) rfl ?_)|(refine zY.own (cr) ?_)
   all_goals apply hr
   all_goals simp [Try.f13]
   all_goals simp [<- hi,o1]
 ·rw [List.drop_of_length_le (by omega)] at hi ha hb
  have hi' : fine (-1) l = true:=hi ▸ rfl
  obtain ⟨e1,e2,e3,e4,e5⟩:=sums kind l _ hi'
  simp only [wsum,cnt,Int.add_zero] at ha hb
  subst ha hb
  by_cases g5 : cnt l = 0
  ·repeat' first | (refine hK _ ?_; clear hK) | (refine hK _ _ ?_; clear hK) | (clear hK; refine hK _ ?_; clear hK) | (clear hK; clear hK; refine hK _ ?_; clear hK) | (clear hK; clear hK; clear hK; refine hK _ ?_; clear hK) | (clear hK; clear hK; clear hK; clear hK; refine hK _ ?_; clear hK) | (refine zJ fun K hK => ?_) | ((first | refine zH ?_ | refine zN rfl (by kernel_rfl) ?_ | refine zM ?_ | refine zK (by kernel_rfl) ?_); simp only [wJ, wI, strip]) | ((first | refine wIs fun K hK => ?_ | refine wOs fun K hK => ?_ | refine wQs fun K hK => ?_ | refine zU ?_ | refine zV ?_ | refine zW ?_ | refine zL ?_); simp [h1, b1, h40, h41, h42, h3, h4, hlt, g5]) | (refine wIn ?_; refine And.intro (by kernel_rfl) ?_; try simp only [zX]) | (first | refine zQ ?_ | refine zS ?_) | ((first | refine zI ?_ | refine zO ?_ | refine zP ?_); try simp) | ((first | refine zR ?_ | refine wOn ?_ | refine wQn ?_); try simp only [zX])
   all_goals apply hr
   all_goals simp [Try.f13,hi']
   all_goals by_cases g6 : kind = 1
   all_goals first | rw [e4 g6,decide_eq_false (by omega)] | rw [e5 g6,decide_eq_false (by omega)]
   all_goals rfl
  ·by_cases g6 : kind = 1
   ·repeat' first | (refine hK _ ?_; clear hK) | (refine hK _ _ ?_; clear hK) | (clear hK; refine hK _ ?_; clear hK) | (clear hK; clear hK; refine hK _ ?_; clear hK) | (clear hK; clear hK; clear hK; refine hK _ ?_; clear hK) | (clear hK; clear hK; clear hK; clear hK; refine hK _ ?_; clear hK) | (refine zJ fun K hK => ?_) | ((first | refine zH ?_ | refine zN rfl (by kernel_rfl) ?_ | refine zM ?_ | refine zK (by kernel_rfl) ?_); simp only [wJ, wI, strip]) | ((first | refine wIs fun K hK => ?_ | refine wOs fun K hK => ?_ | refine wQs fun K hK => ?_ | refine zU ?_ | refine zV ?_ | refine zW ?_ | refine zL ?_); simp [h1, b1, h40, h41, h42, h3, h4, hlt, g5, g6]) | (refine wIn ?_; refine And.intro (by kernel_rfl) ?_; try simp only [zX]) | (first | refine zQ ?_ | refine zS ?_) | ((first | refine zI ?_ | refine zO ?_ | refine zP ?_); try simp) | ((first | refine zR ?_ | refine wOn ?_ | refine wQn ?_); try simp only [zX])
    all_goals apply hr
    all_goals simp [Try.f13,hi']
    all_goals rw [e4 g6,decide_eq_true (by omega)]
    all_goals rfl
   ·by_cases g7 : wsum l = 0
    ·repeat' first | (refine hK _ ?_; clear hK) | (refine hK _ _ ?_; clear hK) | (clear hK; refine hK _ ?_; clear hK) | (clear hK; clear hK; refine hK _ ?_; clear hK) | (clear hK; clear hK; clear hK; refine hK _ ?_; clear hK) | (clear hK; clear hK; clear hK; clear hK; refine hK _ ?_; clear hK) | (refine zJ fun K hK => ?_) | ((first | refine zH ?_ | refine zN rfl (by kernel_rfl) ?_ | refine zM ?_ | refine zK (by kernel_rfl) ?_); simp only [wJ, wI, strip]) | ((first | refine wIs fun K hK => ?_ | refine wOs fun K hK => ?_ | refine wQs fun K hK => ?_ | refine zU ?_ | refine zV ?_ | refine zW ?_ | refine zL ?_); simp [h1, b1, h40, h41, h42, h3, h4, hlt, g5, g6, g7]) | (refine wIn ?_; refine And.intro (by kernel_rfl) ?_; try simp only [zX]) | (first | refine zQ ?_ | refine zS ?_) | ((first | refine zI ?_ | refine zO ?_ | refine zP ?_); try simp) | ((first | refine zR ?_ | refine wOn ?_ | refine wQn ?_); try simp only [zX])
     all_goals apply hr
     all_goals simp [Try.f13,hi']
     all_goals rw [e5 g6,decide_eq_false (by omega)]
     all_goals rfl
    ·repeat' first | (refine hK _ ?_; clear hK) | (refine hK _ _ ?_; clear hK) | (clear hK; refine hK _ ?_; clear hK) | (clear hK; clear hK; refine hK _ ?_; clear hK) | (clear hK; clear hK; clear hK; refine hK _ ?_; clear hK) | (clear hK; clear hK; clear hK; clear hK; refine hK _ ?_; clear hK) | (refine zJ fun K hK => ?_) | ((first | refine zH ?_ | refine zN rfl (by kernel_rfl) ?_ | refine zM ?_ | refine zK (by kernel_rfl) ?_); simp only [wJ, wI, strip]) | ((first | refine wIs fun K hK => ?_ | refine wOs fun K hK => ?_ | refine wQs fun K hK => ?_ | refine zU ?_ | refine zV ?_ | refine zW ?_ | refine zL ?_); simp [h1, b1, h40, h41, h42, h3, h4, hlt, g5, g6, g7]) | (refine wIn ?_; refine And.intro (by kernel_rfl) ?_; try simp only [zX]) | (first | refine zQ ?_ | refine zS ?_) | ((first | refine zI ?_ | refine zO ?_ | refine zP ?_); try simp) | ((first | refine zR ?_ | refine wOn ?_ | refine wQn ?_); try simp only [zX])
     all_goals apply hr
     all_goals simp [Try.f13,hi']
     all_goals rw [e5 g6,decide_eq_true (by omega)]
     all_goals rfl
end Go.Proofs.Ytpilcadofjcdoaa
namespace Go.Proofs.Ytpilcadofjcdoaa
set_option linter.unusedSimpArgs false
set_option linter.unusedVariables false
set_option maxRecDepth 8000
open Go Go.Av
attribute [local irreducible] Go.Av.yQ Go.Av.zZ Go.Av.yG Go.Av.zT Go.Av.yH Go.Av.zY Go.Av.Con
set_option maxHeartbeats 4000000 in
theorem apply06_con (c : Cf) (d : Dl) (e nn : Int) (hc : c.ms.length <= 24) (hp : d.put.length <= 4398046510976) (hd : d.drop.length <= 4611686018427387904) :
 zF Try.prog 25 [.p (.agg c.cells),.p (.agg d.cells),.p (.agg [I e,I nn])] (.tup [.p (.agg (app06 c d e nn).cells),.p (I (appE c d e nn))]):=by
 have c1:=check04_con c (by omega)
 have c2:=ids06_con d.put (by omega)
 have c3:=twice06_con (wP d.put) (by simp;omega)
 have c4:=twice06_con d.drop (by omega)
 have hkl:=keepM_len c d
 have c5:=sort04R_con (d.put ++ yC c d) (by rw [List.length_append];omega)
 have hsl : (stS (yC c d ++ d.put)).length <= 4398046511000:=by rw [stS_len,List.length_append];omega
 have c6:=check04u_con { chg c d with ep:=e,n:=nn }
 unfold app06 appE
 rw [<- stS_perm] at c5
 by_cases h1 : check c = 0
 case neg =>
  rw [if_neg h1,if_neg (by decide : ¬ (16 : Int) = 0)]
  have h1' : (check c = 0) = False:=eq_false h1
  generalize check c = z at *
  clear c2 c3 c4 c5 c6 hsl hkl
  obtain ⟨ep,n,kind,ms⟩:=c
  obtain ⟨dk,put,drop⟩:=d
  simp only [Cf.cells,Dl.cells,mbs,wI] at *
  refine zG Try.tab Try.mixed Try.func25 rfl rfl Try.ntmps25 (by simp) (by simp) fun Q hr hn=>?_
  repeat' first|(refine hK _ ?_;clear hK)|(refine hK _ _ ?_;clear hK)|(clear hK;refine hK _ ?_;clear hK)|(clear hK;clear hK;refine hK _ ?_;clear hK)|(clear hK;clear hK;clear hK;refine hK _ ?_;clear hK)|(clear hK;clear hK;clear hK;clear hK;refine hK _ ?_;clear hK)|(refine zJ fun K hK=>?_)|((first | refine zH ?_ | refine zN rfl (by kernel_rfl) ?_ | refine zM ?_ | refine zK (by kernel_rfl) ?_);simp only [wJ,wI,strip])|((first | refine wIs fun K hK=>?_ | refine wOs fun K hK=>?_ | refine wQs fun K hK=>?_ | refine zU ?_ | refine zV ?_ | refine zW ?_ | refine zL ?_);simp [h1'])|(refine wIn ?_;refine And.intro (by kernel_rfl) ?_;try simp only [zX])|(first | refine zQ ?_ | refine zS ?_)|((first | refine zI ?_ | refine zO ?_ | refine zP ?_);try simp)|((first | refine zR ?_ | refine wOn ?_ | refine wQn ?_);try simp only [zX])|(refine zZ.pure (c1) rfl ?_)|(refine zZ.lent (c1) rfl ?_)|(refine zT.pure (c1) rfl ?_)|(refine zT.lent (c1) rfl ?_)|(refine zZ.own (c1) ?_)|(refine zY.pure (c1) rfl ?_)|(refine zY.lent (c1) rfl ?_)|(refine zY.own (c1) ?_)
  all_goals apply hr
  all_goals simp [Try.f25]
 rw [h1] at c1
 rw [if_pos h1]
 have hchg : chg c d = ⟨0,0,if d.kind = 0 then c.kind else d.kind,stS (yC c d ++ d.put)⟩:=rfl
 by_cases hf : wrongD d = true
 ·have hfe : fitsE c d = 1 := by unfold fitsE; rw [if_pos hf]
  rw [hfe,if_neg (by decide : ¬ (1 : Int) = 0),if_neg (by decide : ¬ (1 : Int) = 0)]
  clear c5 c6 hsl hkl hchg hfe
  simp only [wrongD,Bool.or_eq_true,decide_eq_true_eq] at hf
  obtain ⟨ep,n,kind,ms⟩:=c
  obtain ⟨dk,put,drop⟩:=d
  simp only [Cf.cells,Dl.cells] at *
  cases w1 : twL (wP put) with
  | true =>
   rw [w1] at c3
   refine zG Try.tab Try.mixed Try.func25 rfl rfl Try.ntmps25 (by simp) (by simp) fun Q hr hn=>?_
   repeat' first|(refine hK _ ?_;clear hK)|(refine hK _ _ ?_;clear hK)|(clear hK;refine hK _ ?_;clear hK)|(clear hK;clear hK;refine hK _ ?_;clear hK)|(clear hK;clear hK;clear hK;refine hK _ ?_;clear hK)|(clear hK;clear hK;clear hK;clear hK;refine hK _ ?_;clear hK)|(refine zJ fun K hK=>?_)|((first | refine zH ?_ | refine zN rfl (by kernel_rfl) ?_ | refine zM ?_ | refine zK (by kernel_rfl) ?_);simp only [wJ,wI,strip])|((first | refine wIs fun K hK=>?_ | refine wOs fun K hK=>?_ | refine wQs fun K hK=>?_ | refine zU ?_ | refine zV ?_ | refine zW ?_ | refine zL ?_);simp)|(refine wIn ?_;refine And.intro (by kernel_rfl) ?_;try simp only [zX])|(first | refine zQ ?_ | refine zS ?_)|((first | refine zI ?_ | refine zO ?_ | refine zP ?_);try simp)|((first | refine zR ?_ | refine wOn ?_ | refine wQn ?_);try simp only [zX])|(refine zZ.pure (c1) rfl ?_)|(refine zZ.lent (c1) rfl ?_)|(refine zT.pure (c1) rfl ?_)|(refine zT.lent (c1) rfl ?_)|(refine zZ.own (c1) ?_)|(refine zY.pure (c1) rfl ?_)|(refine zY.lent (c1) rfl ?_)|(refine zY.own (c1) ?_)|(refine zZ.pure (c2) rfl ?_)|(refine zZ.lent (c2) rfl ?_)|(refine zT.pure (c2) rfl ?_)|(refine zT.lent (c2) rfl ?_)|(refine zZ.own (c2) ?_)|(refine zY.pure (c2) rfl ?_)|(refine zY.lent (c2) rfl ?_)|(refine zY.own (c2) ?_)|(refine zZ.pure (c3) rfl ?_)|(refine zZ.lent (c3) rfl ?_)|(refine zT.pure (c3) rfl ?_)|(refine zT.lent (c3) rfl ?_)|(refine zZ.own (c3) ?_)|(refine zY.pure (c3) rfl ?_)|(refine zY.lent (c3) rfl ?_)|(refine zY.own (c3) ?_)|(refine zZ.pure (c4) rfl ?_)|(refine zZ.lent (c4) rfl ?_)|(refine zT.pure (c4) rfl ?_)|(refine zT.lent (c4) rfl ?_)|(refine zZ.own (c4) ?_)|(refine zY.pure (c4) rfl ?_)|(refine zY.lent (c4) rfl ?_)|(refine zY.own (c4) ?_)
   all_goals apply hr
   all_goals simp [Try.f25,mbs]
  | false =>
  rw [w1] at c3
  cases w2 : twL drop with
  | true =>
   rw [w2] at c4
   refine zG Try.tab Try.mixed Try.func25 rfl rfl Try.ntmps25 (by simp) (by simp) fun Q hr hn=>?_
   repeat' first|(refine hK _ ?_;clear hK)|(refine hK _ _ ?_;clear hK)|(clear hK;refine hK _ ?_;clear hK)|(clear hK;clear hK;refine hK _ ?_;clear hK)|(clear hK;clear hK;clear hK;refine hK _ ?_;clear hK)|(clear hK;clear hK;clear hK;clear hK;refine hK _ ?_;clear hK)|(refine zJ fun K hK=>?_)|((first | refine zH ?_ | refine zN rfl (by kernel_rfl) ?_ | refine zM ?_ | refine zK (by kernel_rfl) ?_);simp only [wJ,wI,strip])|((first | refine wIs fun K hK=>?_ | refine wOs fun K hK=>?_ | refine wQs fun K hK=>?_ | refine zU ?_ | refine zV ?_ | refine zW ?_ | refine zL ?_);simp)|(refine wIn ?_;refine And.intro (by kernel_rfl) ?_;try simp only [zX])|(first | refine zQ ?_ | refine zS ?_)|((first | refine zI ?_ | refine zO ?_ | refine zP ?_);try simp)|((first | refine zR ?_ | refine wOn ?_ | refine wQn ?_);try simp only [zX])|(refine zZ.pure (c1) rfl ?_)|(refine zZ.lent (c1) rfl ?_)|(refine zT.pure (c1) rfl ?_)|(refine zT.lent (c1) rfl ?_)|(refine zZ.own (c1) ?_)|(refine zY.pure (c1) rfl ?_)|(refine zY.lent (c1) rfl ?_)|(refine zY.own (c1) ?_)|(refine zZ.pure (c2) rfl ?_)|(refine zZ.lent (c2) rfl ?_)|(refine zT.pure (c2) rfl ?_)|(refine zT.lent (c2) rfl ?_)|(refine zZ.own (c2) ?_)|(refine zY.pure (c2) rfl ?_)|(refine zY.lent (c2) rfl ?_)|(refine zY.own (c2) ?_)|(refine zZ.pure (c3) rfl ?_)|(refine zZ.lent (c3) rfl ?_)|(refine zT.pure (c3) rfl ?_)|(refine zT.lent (c3) rfl ?_)|(refine zZ.own (c3) ?_)|(refine zY.pure (c3) rfl ?_)|(refine zY.lent (c3) rfl ?_)|(refine zY.own (c3) ?_)|(refine zZ.pure (c4) rfl ?_)|(refine zZ.lent (c4) rfl ?_)|(refine zT.pure (c4) rfl ?_)|(refine zT.lent (c4) rfl ?_)|(refine zZ.own (c4) ?_)|(refine zY.pure (c4) rfl ?_)|(refine zY.lent (c4) rfl ?_)|(refine zY.own (c4) ?_)
   all_goals apply hr
   all_goals simp [Try.f25,mbs]
  | false =>
  rw [w2] at c4
  have hf' : dk < 0 \/ 3 < dk := by
   rcases hf with h | h | h | h
   ·rw [w1] at h;cases h
   ·rw [w2] at h;cases h
   ·exact .inl h
   ·exact .inr h
  by_cases w3 : dk < 0
  ·refine zG Try.tab Try.mixed Try.func25 rfl rfl Try.ntmps25 (by simp) (by simp) fun Q hr hn => ?_
   repeat' first|(refine hK _ ?_;clear hK)|(refine hK _ _ ?_;clear hK)|(clear hK;refine hK _ ?_;clear hK)|(clear hK;clear hK;refine hK _ ?_;clear hK)|(clear hK;clear hK;clear hK;refine hK _ ?_;clear hK)|(clear hK;clear hK;clear hK;clear hK;refine hK _ ?_;clear hK)|(refine zJ fun K hK=>?_)|((first | refine zH ?_ | refine zN rfl (by kernel_rfl) ?_ | refine zM ?_ | refine zK (by kernel_rfl) ?_);simp only [wJ,wI,strip])|((first | refine wIs fun K hK=>?_ | refine wOs fun K hK=>?_ | refine wQs fun K hK=>?_ | refine zU ?_ | refine zV ?_ | refine zW ?_ | refine zL ?_);simp [w3])|(refine wIn ?_;refine And.intro (by kernel_rfl) ?_;try simp only [zX])|(first | refine zQ ?_ | refine zS ?_)|((first | refine zI ?_ | refine zO ?_ | refine zP ?_);try simp)|((first | refine zR ?_ | refine wOn ?_ | refine wQn ?_);try simp only [zX])|(refine zZ.pure (c1) rfl ?_)|(refine zZ.lent (c1) rfl ?_)|(refine zT.pure (c1) rfl ?_)|(refine zT.lent (c1) rfl ?_)|(refine zZ.own (c1) ?_)|(refine zY.pure (c1) rfl ?_)|(refine zY.lent (c1) rfl ?_)|(refine zY.own (c1) ?_)|(refine zZ.pure (c2) rfl ?_)|(refine zZ.lent (c2) rfl ?_)|(refine zT.pure (c2) rfl ?_)|(refine zT.lent (c2) rfl ?_)|(refine zZ.own (c2) ?_)|(refine zY.pure (c2) rfl ?_)|(refine zY.lent (c2) rfl ?_)|(refine zY.own (c2) ?_)|(refine zZ.pure (c3) rfl ?_)|(refine zZ.lent (c3) rfl ?_)|(refine zT.pure (c3) rfl ?_)|(refine zT.lent (c3) rfl ?_)|(refine zZ.own (c3) ?_)|(refine zY.pure (c3) rfl ?_)|(refine zY.lent (c3) rfl ?_)|(refine zY.own (c3) ?_)|(refine zZ.pure (c4) rfl ?_)|(refine zZ.lent (c4) rfl ?_)|(refine zT.pure (c4) rfl ?_)|(refine zT.lent (c4) rfl ?_)|(refine zZ.own (c4) ?_)|(refine zY.pure (c4) rfl ?_)|(refine zY.lent (c4) rfl ?_)|(refine zY.own (c4) ?_)
   all_goals apply hr
   all_goals simp [Try.f25,mbs]
  ·have w4 : 3 < dk := by omega
   refine zG Try.tab Try.mixed Try.func25 rfl rfl Try.ntmps25 (by simp) (by simp) fun Q hr hn=>?_
   repeat' first|(refine hK _ ?_;clear hK)|(refine hK _ _ ?_;clear hK)|(clear hK;refine hK _ ?_;clear hK)|(clear hK;clear hK;refine hK _ ?_;clear hK)|(clear hK;clear hK;clear hK;refine hK _ ?_;clear hK)|(clear hK;clear hK;clear hK;clear hK;refine hK _ ?_;clear hK)|(refine zJ fun K hK=>?_)|((first | refine zH ?_ | refine zN rfl (by kernel_rfl) ?_ | refine zM ?_ | refine zK (by kernel_rfl) ?_);simp only [wJ,wI,strip])|((first | refine wIs fun K hK=>?_ | refine wOs fun K hK=>?_ | refine wQs fun K hK=>?_ | refine zU ?_ | refine zV ?_ | refine zW ?_ | refine zL ?_);simp [w3,w4])|(refine wIn ?_;refine And.intro (by kernel_rfl) ?_;try simp only [zX])|(first | refine zQ ?_ | refine zS ?_)|((first | refine zI ?_ | refine zO ?_ | refine zP ?_);try simp)|((first | refine zR ?_ | refine wOn ?_ | refine wQn ?_);try simp only [zX])|(refine zZ.pure (c1) rfl ?_)|(refine zZ.lent (c1) rfl ?_)|(refine zT.pure (c1) rfl ?_)|(refine zT.lent (c1) rfl ?_)|(refine zZ.own (c1) ?_)|(refine zY.pure (c1) rfl ?_)|(refine zY.lent (c1) rfl ?_)|(refine zY.own (c1) ?_)|(refine zZ.pure (c2) rfl ?_)|(refine zZ.lent (c2) rfl ?_)|(refine zT.pure (c2) rfl ?_)|(refine zT.lent (c2) rfl ?_)|(refine zZ.own (c2) ?_)|(refine zY.pure (c2) rfl ?_)|(refine zY.lent (c2) rfl ?_)|(refine zY.own (c2) ?_)|(refine zZ.pure (c3) rfl ?_)|(refine zZ.lent (c3) rfl ?_)|(refine zT.pure (c3) rfl ?_)|(refine zT.lent (c3) rfl ?_)|(refine zZ.own (c3) ?_)|(refine zY.pure (c3) rfl ?_)|(refine zY.lent (c3) rfl ?_)|(refine zY.own (c3) ?_)|(refine zZ.pure (c4) rfl ?_)|(refine zZ.lent (c4) rfl ?_)|(refine zT.pure (c4) rfl ?_)|(refine zT.lent (c4) rfl ?_)|(refine zZ.own (c4) ?_)|(refine zY.pure (c4) rfl ?_)|(refine zY.lent (c4) rfl ?_)|(refine zY.own (c4) ?_)
   all_goals apply hr
   all_goals simp [Try.f25,mbs]
 have hfe : fitsE c d = dropE c (wP d.put) d.drop:=by unfold fitsE;rw [if_neg hf]
 simp only [wrongD,Bool.or_eq_true,decide_eq_true_eq,not_or,Bool.not_eq_true] at hf
 obtain ⟨w1,w2,w3,w4⟩:=hf
 rw [hfe]
 rw [w1] at c3
 rw [w2] at c4
 have cfi:=fun id=>find06_con c id (by omega)
 have hpl : (wP d.put).length <= 4611686018427387904:=by simp;omega
 have kc:=fun k hk=>keep06_snoc d.drop d.put c.ms c.ep c.n c.kind d.kind k hk
 generalize hcz : check { chg c d with ep:=e,n:=nn } = cz at *
 rw [hchg] at c6 ⊢
 have hk0 : yC ⟨c.ep,c.n,c.kind,c.ms.take 0⟩ d = []:=by simp [yC]
 have hkA : yC ⟨c.ep,c.n,c.kind,c.ms⟩ d = yC c d:=rfl
 generalize hSS : stS (yC c d ++ d.put) = SS at *
 clear hchg hfe hcz hSS h1
 obtain ⟨ep,n,kind,ms⟩:=c
 obtain ⟨dk,put,drop⟩:=d
 simp only [Cf.cells,Dl.cells] at *
 refine zG Try.tab Try.mixed Try.func25 rfl rfl Try.ntmps25 (by simp) (by simp) fun Q hr hn=>?_
 repeat' first|(refine hK _ ?_;clear hK)|(refine hK _ _ ?_;clear hK)|(clear hK;refine hK _ ?_;clear hK)|(clear hK;clear hK;refine hK _ ?_;clear hK)|(clear hK;clear hK;clear hK;refine hK _ ?_;clear hK)|(clear hK;clear hK;clear hK;clear hK;refine hK _ ?_;clear hK)|(refine zJ fun K hK=>?_)|((first | refine zH ?_ | refine zN rfl (by kernel_rfl) ?_ | refine zM ?_ | refine zK (by kernel_rfl) ?_);simp only [wJ,wI,strip])|((first | refine wIs fun K hK=>?_ | refine wOs fun K hK=>?_ | refine wQs fun K hK=>?_ | refine zU ?_ | refine zV ?_ | refine zW ?_ | refine zL ?_);simp [w3,w4])|(refine wIn ?_;refine And.intro (by kernel_rfl) ?_;try simp only [zX])|(first | refine zQ ?_ | refine zS ?_)|((first | refine zI ?_ | refine zO ?_ | refine zP ?_);try simp)|((first | refine zR ?_ | refine wOn ?_ | refine wQn ?_);try simp only [zX])|(refine zZ.pure (c1) rfl ?_)|(refine zZ.lent (c1) rfl ?_)|(refine zT.pure (c1) rfl ?_)|(refine zT.lent (c1) rfl ?_)|(refine zZ.own (c1) ?_)|(refine zY.pure (c1) rfl ?_)|(refine zY.lent (c1) rfl ?_)|(refine zY.own (c1) ?_)|(refine zZ.pure (c2) rfl ?_)|(refine zZ.lent (c2) rfl ?_)|(refine zT.pure (c2) rfl ?_)|(refine zT.lent (c2) rfl ?_)|(refine zZ.own (c2) ?_)|(refine zY.pure (c2) rfl ?_)|(refine zY.lent (c2) rfl ?_)|(refine zY.own (c2) ?_)|(refine zZ.pure (c3) rfl ?_)|(refine zZ.lent (c3) rfl ?_)|(refine zT.pure (c3) rfl ?_)|(refine zT.lent (c3) rfl ?_)|(refine zZ.own (c3) ?_)|(refine zY.pure (c3) rfl ?_)|(refine zY.lent (c3) rfl ?_)|(refine zY.own (c3) ?_)|(refine zZ.pure (c4) rfl ?_)|(refine zZ.lent (c4) rfl ?_)|(refine zT.pure (c4) rfl ?_)|(refine zT.lent (c4) rfl ?_)|(refine zZ.own (c4) ?_)|(refine zY.pure (c4) rfl ?_)|(refine zY.lent (c4) rfl ?_)|(refine zY.own (c4) ?_)
 refine xS (fun N st=>∃ k,k + N = drop.length /\ st.s 3 = .ptr 3 0 /\ st.b 3 = some (.box 28 [.p (I ep),.p (I n),.p (I kind),.p (.sl 4 (mbs ms))]) /\ st.s 4 = .ptr 4 0 /\ st.b 4 = some (.box 33 [.p (I dk),.p (.sl 4 (mbs put)),.p (.sl 1 (ints drop))]) /\ st.s 5 = .ptr 5 0 /\ st.b 5 = some (.box 25 [.p (I e),.p (I nn)]) /\ st.s 6 = .ptr 6 0 /\ st.b 6 = some (.box 28 [.p (I 0),.p (I 0),.p (I 0),.nil 4]) /\ st.s 8 = .p (.sl 1 (ints (wP put))) /\ st.s 44 = .p (.sl 1 (ints drop)) /\ st.s 45 = .p (I drop.length) /\ st.s 46 = .p (I k) /\ dropE ⟨ep,n,kind,ms⟩ (wP put) (drop.drop k) = dropE ⟨ep,n,kind,ms⟩ (wP put) drop) drop.length ⟨0,by simp⟩ fun K N st hL ⟨k,hk,h3,b3,h4,b4,h5,b5,h6,b6,h8,h44,h45,h46,hi⟩=>?_
 by_cases hlt : k < drop.length
 ·have hw := xY k _ hlt (by omega)
  have he:=ints_get hlt
  rw [List.drop_eq_getElem_cons hlt,dropE] at hi
  have cc:=has06_con (wP put) drop[k] hpl
  have cf:=cfi drop[k]
  clear kc cfi
  generalize hF : drop[k] = id at *
  by_cases o1 : id ∈ wP put
  ·rw [if_pos o1] at hi
   rw [decide_eq_true o1] at cc
   rw [<- hi,if_neg (by decide : ¬ (1 : Int) = 0),if_neg (by decide : ¬ (1 : Int) = 0)] at hr
   repeat' first|(refine hK _ ?_;clear hK)|(refine hK _ _ ?_;clear hK)|(clear hK;refine hK _ ?_;clear hK)|(clear hK;clear hK;refine hK _ ?_;clear hK)|(clear hK;clear hK;clear hK;refine hK _ ?_;clear hK)|(clear hK;clear hK;clear hK;clear hK;refine hK _ ?_;clear hK)|(refine zJ fun K hK=>?_)|((first | refine zH ?_ | refine zN rfl (by kernel_rfl) ?_ | refine zM ?_ | refine zK (by kernel_rfl) ?_);simp only [wJ,wI,strip])|((first | refine wIs fun K hK=>?_ | refine wOs fun K hK=>?_ | refine wQs fun K hK=>?_ | refine zU ?_ | refine zV ?_ | refine zW ?_ | refine zL ?_);simp [h3,b3,h4,b4,h5,b5,h6,b6,h8,h44,h45,h46,hlt,hw,he,hF])|(refine wIn ?_;refine And.intro (by kernel_rfl) ?_;try simp only [zX])|(first | refine zQ ?_ | refine zS ?_)|((first | refine zI ?_ | refine zO ?_ | refine zP ?_);try simp)|((first | refine zR ?_ | refine wOn ?_ | refine wQn ?_);try simp only [zX])|(refine zZ.pure (cc) rfl ?_)|(refine zZ.lent (cc) rfl ?_)|(refine zT.pure (cc) rfl ?_)|(refine zT.lent (cc) rfl ?_)|(refine zZ.own (cc) ?_)|(refine zY.pure (cc) rfl ?_)|(refine zY.lent (cc) rfl ?_)|(refine zY.own (cc) ?_)
   all_goals apply hr
   all_goals simp [Try.f25,mbs,h3,b3,h4,b4,h5,b5,h6,b6,h8,Cf.cells]
  ·rw [if_neg o1] at hi
   rw [decide_eq_false o1] at cc
   generalize fm id ms = f at cf hi
   obtain ⟨fm1,fm2⟩:=f
   cases fm2
   ·rw [if_neg (by simp)] at hi
    rw [<- hi,if_neg (by decide : ¬ (6 : Int) = 0),if_neg (by decide : ¬ (6 : Int) = 0)] at hr
    repeat' first|(refine hK _ ?_;clear hK)|(refine hK _ _ ?_;clear hK)|(clear hK;refine hK _ ?_;clear hK)|(clear hK;clear hK;refine hK _ ?_;clear hK)|(clear hK;clear hK;clear hK;refine hK _ ?_;clear hK)|(clear hK;clear hK;clear hK;clear hK;refine hK _ ?_;clear hK)|(refine zJ fun K hK=>?_)|((first | refine zH ?_ | refine zN rfl (by kernel_rfl) ?_ | refine zM ?_ | refine zK (by kernel_rfl) ?_);simp only [wJ,wI,strip])|((first | refine wIs fun K hK=>?_ | refine wOs fun K hK=>?_ | refine wQs fun K hK=>?_ | refine zU ?_ | refine zV ?_ | refine zW ?_ | refine zL ?_);simp [h3,b3,h4,b4,h5,b5,h6,b6,h8,h44,h45,h46,hlt,hw,he,hF])|(refine wIn ?_;refine And.intro (by kernel_rfl) ?_;try simp only [zX])|(first | refine zQ ?_ | refine zS ?_)|((first | refine zI ?_ | refine zO ?_ | refine zP ?_);try simp)|((first | refine zR ?_ | refine wOn ?_ | refine wQn ?_);try simp only [zX])|(refine zZ.pure (cc) rfl ?_)|(refine zZ.lent (cc) rfl ?_)|(refine zT.pure (cc) rfl ?_)|(refine zT.lent (cc) rfl ?_)|(refine zZ.own (cc) ?_)|(refine zY.pure (cc) rfl ?_)|(refine zY.lent (cc) rfl ?_)|(refine zY.own (cc) ?_)|(refine zZ.pure (cf) rfl ?_)|(refine zZ.lent (cf) rfl ?_)|(refine zT.pure (cf) rfl ?_)|(refine zT.lent (cf) rfl ?_)|(refine zZ.own (cf) ?_)|(refine zY.pure (cf) rfl ?_)|(refine zY.lent (cf) rfl ?_)|(refine zY.own (cf) ?_)
    all_goals apply hr
    all_goals simp [Try.f25,mbs,h3,b3,h4,b4,h5,b5,h6,b6,h8,Cf.cells]
   ·rw [if_pos rfl] at hi
    repeat' first|(refine hK _ ?_;clear hK)|(refine hK _ _ ?_;clear hK)|(clear hK;refine hK _ ?_;clear hK)|(clear hK;clear hK;refine hK _ ?_;clear hK)|(clear hK;clear hK;clear hK;refine hK _ ?_;clear hK)|(clear hK;clear hK;clear hK;clear hK;refine hK _ ?_;clear hK)|(refine zJ fun K hK=>?_)|((first | refine zH ?_ | refine zN rfl (by kernel_rfl) ?_ | refine zM ?_ | refine zK (by kernel_rfl) ?_);simp only [wJ,wI,strip])|((first | refine wIs fun K hK=>?_ | refine wOs fun K hK=>?_ | refine wQs fun K hK=>?_ | refine zU ?_ | refine zV ?_ | refine zW ?_ | refine zL ?_);simp [h3,b3,h4,b4,h5,b5,h6,b6,h8,h44,h45,h46,hlt,hw,he,hF])|(refine wIn ?_;refine And.intro (by kernel_rfl) ?_;try simp only [zX])|(first | refine zQ ?_ | refine zS ?_)|((first | refine zI ?_ | refine zO ?_ | refine zP ?_);try simp)|((first | refine zR ?_ | refine wOn ?_ | refine wQn ?_);try simp only [zX])|(refine zZ.pure (cc) rfl ?_)|(refine zZ.lent (cc) rfl ?_)|(refine zT.pure (cc) rfl ?_)|(refine zT.lent (cc) rfl ?_)|(refine zZ.own (cc) ?_)|(refine zY.pure (cc) rfl ?_)|(refine zY.lent (cc) rfl ?_)|(refine zY.own (cc) ?_)|(refine zZ.pure (cf) rfl ?_)|(refine zZ.lent (cf) rfl ?_)|(refine zT.pure (cf) rfl ?_)|(refine zT.lent (cf) rfl ?_)|(refine zZ.own (cf) ?_)|(refine zY.pure (cf) rfl ?_)|(refine zY.lent (cf) rfl ?_)|(refine zY.own (cf) ?_)
    refine hL _ (N - 1) (by omega) ⟨k + 1,by omega,?_⟩
    simp [h3,b3,h4,b4,h5,b5,h6,b6,h8,h44,h45,hw,hi]
 rw [List.drop_of_length_le (by omega),dropE] at hi
 rw [<- hi,if_pos rfl] at hr
 clear cfi
 by_cases hk0' : dk = 0
 all_goals
  first | rw [if_pos hk0'] at hr c6 | rw [if_neg hk0'] at hr c6
  repeat' first|(refine hK _ ?_;clear hK)|(refine hK _ _ ?_;clear hK)|(clear hK;refine hK _ ?_;clear hK)|(clear hK;clear hK;refine hK _ ?_;clear hK)|(clear hK;clear hK;clear hK;refine hK _ ?_;clear hK)|(clear hK;clear hK;clear hK;clear hK;refine hK _ ?_;clear hK)|(refine zJ fun K hK=>?_)|((first | refine zH ?_ | refine zN rfl (by kernel_rfl) ?_ | refine zM ?_ | refine zK (by kernel_rfl) ?_);simp only [wJ,wI,strip])|((first | refine wIs fun K hK=>?_ | refine wOs fun K hK=>?_ | refine wQs fun K hK=>?_ | refine zU ?_ | refine zV ?_ | refine zW ?_ | refine zL ?_);simp [h3,b3,h4,b4,h5,b5,h6,b6,h8,h44,h45,h46,hlt,hk0'])|(refine wIn ?_;refine And.intro (by kernel_rfl) ?_;try simp only [zX])|(first | refine zQ ?_ | refine zS ?_)|((first | refine zI ?_ | refine zO ?_ | refine zP ?_);try simp)|((first | refine zR ?_ | refine wOn ?_ | refine wQn ?_);try simp only [zX])|(refine Or.inl ?_)|(refine And.intro (by (try simp);omega) ?_)
  refine xS (fun N st => ∃ (k : Nat), k + N = ms.length /\ st.s 3 = .ptr 3 0 /\ st.b 3 = some (.box 28 [.p (I ep), .p (I n), .p (I kind), .p (.sl 4 (mbs ms))]) /\ st.s 4 = .ptr 4 0 /\ st.b 4 = some (.box 33 [.p (I dk), .p (.sl 4 (mbs put)), .p (.sl 1 (ints drop))]) /\ st.s 6 = .ptr 6 0 /\ st.b 6 = some (.box 28 [.p (I 0), .p (I 0), .p (I 0), .nil 4]) /\ st.s 8 = .p (.sl 1 (ints (wP put))) ∧
   st.s 13 = .ptr 13 0 /\ st.s 14 = .row 77 /\ st.b 77 = some (.row 86 4 (mbs (put ++ yC ⟨ep,n,kind,ms.take k⟩ ⟨dk,put,drop⟩))) /\ st.s 79 = .p (.sl 4 (mbs ms)) /\ st.s 80 = .p (I ms.length) /\ st.s 81 = .p (I k) /\ ∃ z,st.b 13 = some (.box 28 [.p (I e),.p (I nn),.p (I (if dk = 0 then kind else dk)),z])) ms.length ⟨0,by simp [h3,b3,h4,b4,h6,b6,h8,hk0',yC]⟩ fun K N st hL ⟨k,hkN,h3,b3,h4,b4,h6,b6,h8,h13,h14,b77,h79,h80,h81,z,b13⟩=>?_
  by_cases hlt : k < ms.length
  ·have hw := xY k _ hlt (by omega)
   have he:=mbs_get hlt
   have hsn:=kc k hlt
   try dsimp only at hsn
   have d1:=has06_con drop ms[k].i hd
   have d2:=has06_con (wP put) ms[k].i hpl
   have hln : (put ++ yC ⟨ep, n, kind, ms.take k⟩ ⟨dk, put, drop⟩).length <= 4398046511000 := by
    have:=keepM_len ⟨ep,n,kind,ms.take k⟩ ⟨dk,put,drop⟩
    rw [List.length_append]
    simp only [List.length_take] at this
    omega
   generalize hF : ms[k] = m at *
   by_cases o1 : m.i ∈ drop
   ·rw [if_pos o1] at hsn
    rw [decide_eq_true o1] at d1
    repeat' first|(refine hK _ ?_;clear hK)|(refine hK _ _ ?_;clear hK)|(clear hK;refine hK _ ?_;clear hK)|(clear hK;clear hK;refine hK _ ?_;clear hK)|(clear hK;clear hK;clear hK;refine hK _ ?_;clear hK)|(clear hK;clear hK;clear hK;clear hK;refine hK _ ?_;clear hK)|(refine zJ fun K hK=>?_)|((first | refine zH ?_ | refine zN rfl (by kernel_rfl) ?_ | refine zM ?_ | refine zK (by kernel_rfl) ?_);simp only [wJ,wI,strip])|((first | refine wIs fun K hK=>?_ | refine wOs fun K hK=>?_ | refine wQs fun K hK=>?_ | refine zU ?_ | refine zV ?_ | refine zW ?_ | refine zL ?_);simp [h3,b3,h4,b4,h6,b6,h8,h13,b13,h14,b77,h79,h80,h81,hlt,hw,he,hF])|(refine wIn ?_;refine And.intro (by kernel_rfl) ?_;try simp only [zX])|(first | refine zQ ?_ | refine zS ?_)|((first | refine zI ?_ | refine zO ?_ | refine zP ?_);try simp)|((first | refine zR ?_ | refine wOn ?_ | refine wQn ?_);try simp only [zX])|(refine zZ.pure (d1) rfl ?_)|(refine zZ.lent (d1) rfl ?_)|(refine zT.pure (d1) rfl ?_)|(refine zT.lent (d1) rfl ?_)|(refine zZ.own (d1) ?_)|(refine zY.pure (d1) rfl ?_)|(refine zY.lent (d1) rfl ?_)|(refine zY.own (d1) ?_)
    refine hL _ (N - 1) (by omega) ⟨k + 1,by omega,?_⟩
    simp [h3,b3,h4,b4,h6,b6,h8,h13,b13,h14,b77,h79,h80,hw,hsn]
   ·rw [if_neg o1] at hsn
    rw [decide_eq_false o1] at d1
    by_cases o2 : m.i ∈ wP put
    ·rw [if_pos o2] at hsn
     rw [decide_eq_true o2] at d2
     repeat' first|(refine hK _ ?_;clear hK)|(refine hK _ _ ?_;clear hK)|(clear hK;refine hK _ ?_;clear hK)|(clear hK;clear hK;refine hK _ ?_;clear hK)|(clear hK;clear hK;clear hK;refine hK _ ?_;clear hK)|(clear hK;clear hK;clear hK;clear hK;refine hK _ ?_;clear hK)|(refine zJ fun K hK=>?_)|((first | refine zH ?_ | refine zN rfl (by kernel_rfl) ?_ | refine zM ?_ | refine zK (by kernel_rfl) ?_);simp only [wJ,wI,strip])|((first | refine wIs fun K hK=>?_ | refine wOs fun K hK=>?_ | refine wQs fun K hK=>?_ | refine zU ?_ | refine zV ?_ | refine zW ?_ | refine zL ?_);simp [h3,b3,h4,b4,h6,b6,h8,h13,b13,h14,b77,h79,h80,h81,hlt,hw,he,hF])|(refine wIn ?_;refine And.intro (by kernel_rfl) ?_;try simp only [zX])|(first | refine zQ ?_ | refine zS ?_)|((first | refine zI ?_ | refine zO ?_ | refine zP ?_);try simp)|((first | refine zR ?_ | refine wOn ?_ | refine wQn ?_);try simp only [zX])|(refine zZ.pure (d1) rfl ?_)|(refine zZ.lent (d1) rfl ?_)|(refine zT.pure (d1) rfl ?_)|(refine zT.lent (d1) rfl ?_)|(refine zZ.own (d1) ?_)|(refine zY.pure (d1) rfl ?_)|(refine zY.lent (d1) rfl ?_)|(refine zY.own (d1) ?_)|(refine zZ.pure (d2) rfl ?_)|(refine zZ.lent (d2) rfl ?_)|(refine zT.pure (d2) rfl ?_)|(refine zT.lent (d2) rfl ?_)|(refine zZ.own (d2) ?_)|(refine zY.pure (d2) rfl ?_)|(refine zY.lent (d2) rfl ?_)|(refine zY.own (d2) ?_)
     refine hL _ (N - 1) (by omega) ⟨k + 1,by omega,?_⟩
     simp [h3,b3,h4,b4,h6,b6,h8,h13,b13,h14,b77,h79,h80,hw,hsn]
    ·rw [if_neg o2] at hsn
     rw [decide_eq_false o2] at d2
     have ha:=mbs_snoc (put ++ yC ⟨ep,n,kind,ms.take k⟩ ⟨dk,put,drop⟩) m
     rw [<- hsn] at ha
     generalize put ++ yC ⟨ep,n,kind,ms.take k⟩ ⟨dk,put,drop⟩ = P at *
     generalize hP2 : put ++ yC ⟨ep,n,kind,ms.take (k + 1)⟩ ⟨dk,put,drop⟩ = P2 at *
     repeat' first|(refine hK _ ?_;clear hK)|(refine hK _ _ ?_;clear hK)|(clear hK;refine hK _ ?_;clear hK)|(clear hK;clear hK;refine hK _ ?_;clear hK)|(clear hK;clear hK;clear hK;refine hK _ ?_;clear hK)|(clear hK;clear hK;clear hK;clear hK;refine hK _ ?_;clear hK)|(refine zJ fun K hK=>?_)|((first | refine zH ?_ | refine zN rfl (by kernel_rfl) ?_ | refine zM ?_ | refine zK (by kernel_rfl) ?_);simp only [wJ,wI,strip])|((first | refine wIs fun K hK=>?_ | refine wOs fun K hK=>?_ | refine wQs fun K hK=>?_ | refine zU ?_ | refine zV ?_ | refine zW ?_ | refine zL ?_);simp [h3,b3,h4,b4,h6,b6,h8,h13,b13,h14,b77,h79,h80,h81,hlt,hw,he,hF,ha])|(refine wIn ?_;refine And.intro (by kernel_rfl) ?_;try simp only [zX])|(first | refine zQ ?_ | refine zS ?_)|((first | refine zI ?_ | refine zO ?_ | refine zP ?_);try simp)|((first | refine zR ?_ | refine wOn ?_ | refine wQn ?_);try simp only [zX])|(refine zZ.pure (d1) rfl ?_)|(refine zZ.lent (d1) rfl ?_)|(refine zT.pure (d1) rfl ?_)|(refine zT.lent (d1) rfl ?_)|(refine zZ.own (d1) ?_)|(refine zY.pure (d1) rfl ?_)|(refine zY.lent (d1) rfl ?_)|(refine zY.own (d1) ?_)|(refine zZ.pure (d2) rfl ?_)|(refine zZ.lent (d2) rfl ?_)|(refine zT.pure (d2) rfl ?_)|(refine zT.lent (d2) rfl ?_)|(refine zZ.own (d2) ?_)|(refine zY.pure (d2) rfl ?_)|(refine zY.lent (d2) rfl ?_)|(refine zY.own (d2) ?_)|(refine And.intro (by (try simp);omega) ?_)
     refine hL _ (N - 1) (by omega) ⟨k + 1,by omega,?_⟩
     simp [h3,b3,h4,b4,h6,b6,h8,h13,b13,h14,b77,h79,h80,hw,ha,hP2]
  ·rw [List.take_of_length_le (by omega)] at b77
   generalize put ++ yC ⟨ep,n,kind,ms⟩ ⟨dk,put,drop⟩ = P at *
   by_cases hcz : cz = 0
   ·subst hcz
    rw [if_pos rfl] at hr
    repeat' first|(refine hK _ ?_;clear hK)|(refine hK _ _ ?_;clear hK)|(clear hK;refine hK _ ?_;clear hK)|(clear hK;clear hK;refine hK _ ?_;clear hK)|(clear hK;clear hK;clear hK;refine hK _ ?_;clear hK)|(clear hK;clear hK;clear hK;clear hK;refine hK _ ?_;clear hK)|(refine zJ fun K hK=>?_)|((first | refine zH ?_ | refine zN rfl (by kernel_rfl) ?_ | refine zM ?_ | refine zK (by kernel_rfl) ?_);simp only [wJ,wI,strip])|((first | refine wIs fun K hK=>?_ | refine wOs fun K hK=>?_ | refine wQs fun K hK=>?_ | refine zU ?_ | refine zV ?_ | refine zW ?_ | refine zL ?_);simp [h3,b3,h4,b4,h6,b6,h8,h13,b13,h14,b77,h79,h80,h81,hlt,hk0'])|(refine wIn ?_;refine And.intro (by kernel_rfl) ?_;try simp only [zX])|(first | refine zQ ?_ | refine zS ?_)|((first | refine zI ?_ | refine zO ?_ | refine zP ?_);try simp)|((first | refine zR ?_ | refine wOn ?_ | refine wQn ?_);try simp only [zX])|(refine zZ.ownL c5 (flatL_mbs _) ?_)|(refine zZ.pure (c6) rfl ?_)|(refine zZ.lent (c6) rfl ?_)|(refine zT.pure (c6) rfl ?_)|(refine zT.lent (c6) rfl ?_)|(refine zZ.own (c6) ?_)|(refine zY.pure (c6) rfl ?_)|(refine zY.lent (c6) rfl ?_)|(refine zY.own (c6) ?_)
    all_goals apply hr
    all_goals simp [Try.f25,h6,b6,Cf.cells]
   ·rw [if_neg hcz] at hr
    repeat' first|(refine hK _ ?_;clear hK)|(refine hK _ _ ?_;clear hK)|(clear hK;refine hK _ ?_;clear hK)|(clear hK;clear hK;refine hK _ ?_;clear hK)|(clear hK;clear hK;clear hK;refine hK _ ?_;clear hK)|(clear hK;clear hK;clear hK;clear hK;refine hK _ ?_;clear hK)|(refine zJ fun K hK=>?_)|((first | refine zH ?_ | refine zN rfl (by kernel_rfl) ?_ | refine zM ?_ | refine zK (by kernel_rfl) ?_);simp only [wJ,wI,strip])|((first | refine wIs fun K hK=>?_ | refine wOs fun K hK=>?_ | refine wQs fun K hK=>?_ | refine zU ?_ | refine zV ?_ | refine zW ?_ | refine zL ?_);simp [h3,b3,h4,b4,h6,b6,h8,h13,b13,h14,b77,h79,h80,h81,hlt,hk0',hcz])|(refine wIn ?_;refine And.intro (by kernel_rfl) ?_;try simp only [zX])|(first | refine zQ ?_ | refine zS ?_)|((first | refine zI ?_ | refine zO ?_ | refine zP ?_);try simp)|((first | refine zR ?_ | refine wOn ?_ | refine wQn ?_);try simp only [zX])|(refine zZ.ownL c5 (flatL_mbs _) ?_)|(refine zZ.pure (c6) rfl ?_)|(refine zZ.lent (c6) rfl ?_)|(refine zT.pure (c6) rfl ?_)|(refine zT.lent (c6) rfl ?_)|(refine zZ.own (c6) ?_)|(refine zY.pure (c6) rfl ?_)|(refine zY.lent (c6) rfl ?_)|(refine zY.own (c6) ?_)
    all_goals apply hr
    all_goals simp [Try.f25,h6,b6,Cf.cells,mbs]
end Go.Proofs.Ytpilcadofjcdoaa
