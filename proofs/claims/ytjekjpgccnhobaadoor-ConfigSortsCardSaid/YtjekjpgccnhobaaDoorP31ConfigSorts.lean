/- Texts that the proof needs: RS1 CF6. -/
import Derived.Test.YtjekjpgccnhobaaDoorP29ConfigSorts
import Derived.Test.YtjekjpgccnhobaaDoorP28ConfigSorts
import Derived.Test.YtjekjpgccnhobaaDoorP30ConfigSorts
namespace Go.Proofs.YtjekjpgccnhobaaDoor
set_option linter.unusedSimpArgs false
set_option linter.unusedVariables false
open Go Go.Av
attribute [local irreducible] Go.Av.xB Go.Av.zU Go.Av.CallQ Go.Av.zT Go.Av.CallR Go.Av.zV Go.Av.Con
theorem mbs_setS (l : List Mb) (k : Nat) (x : Mb) : (mbs l).set k [I x.i, I x.r, I x.w, I x.g] = mbs (l.set k x) := by simp [mbs, Mb.cells, List.map_set]
theorem set_midS (A B : List Mb) (x y : Mb) (j : Nat) (h : j = A.length) : (A ++ x :: B).set j y = A ++ y :: B := by
 subst h
 rw [List.set_append_right _ _ (Nat.le_refl _)];simp
theorem get_midS (A B : List Mb) (x : Mb) (j : Nat) (h : j < A.length) (h' : j < (A ++ x :: B).length) : (A ++ x :: B)[j] = A[j] := List.getElem_append_left h
theorem takeS_prev (S : List Mb) (j : Nat) (h0 : 0 < j) (h : j <= S.length) : S.take j = S.take (j - 1) ++ [S[j - 1]] := by
 have e : j = (j - 1) + 1:=by omega
 conv=>lhs;rw [e]
 rw [List.take_succ_eq_append_getElem (by omega)]
theorem dropS_prev (S : List Mb) (j : Nat) (h0 : 0 < j) (h : j <= S.length) : S.drop (j - 1) = S[j - 1] :: S.drop j := by
 rw [List.drop_eq_getElem_cons (by omega)]
 congr 2;omega
theorem headS {S : List Mb} (hS : Ord S) (m : Mb) (j : Nat) (hj : j <= S.length) (h : j = 0 \/ ∃ h0 : 0 < j, ¬ m.i < (S[j - 1]'(by omega)).i) : ∀ y ∈ S.take j, ¬ m.i < y.i := by
 rcases h with rfl | ⟨h0,h⟩
 ·intro y hy;simp at hy
 ·intro y hy
  obtain ⟨i,hi,rfl⟩:=List.mem_iff_getElem.1 hy
  rw [List.length_take] at hi
  rw [List.getElem_take]
  by_cases e : i = j - 1
  ·subst e;exact h
  ·have := List.pairwise_iff_getElem.1 hS i (j - 1) (by omega) (by omega) (by omega)
   omega
set_option maxHeartbeats 4000000 in
theorem sort04R_con (l : List Mb) (hl : l.length <= 1000000) : RCon 19 [.p (.sl 4 (mbs l))] 30 4 (mbs (yR l)) := by
 refine wBodyR Tryd.tab Tryd.mixed Tryd.func19 rfl rfl Tryd.ntmps19 rfl (by simp) (by simp) fun Q hr hn=>?_
 repeat' first|(refine hK _ ?_;clear hK)|(refine hK _ _ ?_;clear hK)|(clear hK;refine hK _ ?_;clear hK)|(clear hK;clear hK;refine hK _ ?_;clear hK)|(clear hK;clear hK;clear hK;refine hK _ ?_;clear hK)|(clear hK;clear hK;clear hK;clear hK;refine hK _ ?_;clear hK)|(refine zJ fun K hK=>?_)|((first | refine zH ?_ | refine zN rfl (by kernel_rfl) ?_ | refine zM ?_ | refine zK (by kernel_rfl) ?_);simp only [xA,wZ,strip])|((first | refine wIs fun K hK=>?_ | refine wOs fun K hK=>?_ | refine wQs fun K hK=>?_ | refine zW ?_ | refine zX ?_ | refine zY ?_ | refine zL ?_);simp)|(refine wIn ?_;refine And.intro (by kernel_rfl) ?_;try simp only [zZ])|(first | refine zQ ?_ | refine zS ?_)|((first | refine zI ?_ | refine zO ?_ | refine zP ?_);try simp)|((first | refine zR ?_ | refine wOn ?_ | refine wQn ?_);try simp only [zZ])
 refine wLoopG [.row 3 30 4] (fun N st=>∃ k,k + N = l.length /\ st.s 3 = .row 3 /\ st.s 7 = .p (.sl 4 (mbs l)) /\ st.s 8 = .p (I l.length) /\ st.s 9 = .p (I k) /\ st.b 3 = some (.row 30 4 (mbs (yR (l.take k))))) l.length ⟨0,by simp [yR,mbs]⟩ fun K N st hL ⟨k,hk,h3,h7,h8,h9,b3⟩=>?_
 by_cases hlt : k < l.length
 ·have hw := wrapS k _ hlt (by omega)
  have he:=mbs_get hlt
  have hsn : yR (l.take (k + 1)) = insM l[k] (yR (l.take k)):=by rw [List.take_succ_eq_append_getElem hlt,srtM_snoc]
  have hSo:=(srtM_spec (l.take k)).2.1
  have hSl : (yR (l.take k)).length = k:=by rw [xH,List.length_take];omega
  generalize yR (l.take k) = S at *
  generalize hT : yR (l.take (k + 1)) = T at *
  generalize hF : l[k] = m at *
  have ha : mbs S ++ [[I m.i,I m.r,I m.w,I m.g]] = mbs (S ++ [m]):=by simp [mbs,Mb.cells]
  have hml : (mbs S).length = k:=by simpa using hSl
  repeat' first|(refine And.intro (by (try simp only [hml]);omega) ?_)|(refine hK _ ?_;clear hK)|(refine hK _ _ ?_;clear hK)|(clear hK;refine hK _ ?_;clear hK)|(clear hK;clear hK;refine hK _ ?_;clear hK)|(clear hK;clear hK;clear hK;refine hK _ ?_;clear hK)|(clear hK;clear hK;clear hK;clear hK;refine hK _ ?_;clear hK)|(refine zJ fun K hK=>?_)|((first | refine zH ?_ | refine zN rfl (by kernel_rfl) ?_ | refine zM ?_ | refine zK (by kernel_rfl) ?_);simp only [xA,wZ,strip])|((first | refine wIs fun K hK=>?_ | refine wOs fun K hK=>?_ | refine wQs fun K hK=>?_ | refine zW ?_ | refine zX ?_ | refine zY ?_ | refine zL ?_);simp [h3,h7,h8,h9,b3,hlt,hw,he,hF,ha,hml])|(refine wIn ?_;refine And.intro (by kernel_rfl) ?_;try simp only [zZ])|(first | refine zQ ?_ | refine zS ?_)|((first | refine zI ?_ | refine zO ?_ | refine zP ?_);try simp)|((first | refine zR ?_ | refine wOn ?_ | refine wQn ?_);try simp only [zZ])
  refine yA (fun N st=>∃ (j : Nat) (x : Mb),j = N /\ j <= k /\ (∀ y ∈ S.drop j,m.i < y.i) /\ st.s 3 = .row 3 /\ st.s 5 = .ptr 5 0 /\ st.b 5 = some (.box 30 [.p (I m.i),.p (I m.r),.p (I m.w),.p (I m.g)]) /\ st.s 6 = .p (I j) /\ st.s 7 = .p (.sl 4 (mbs l)) /\ st.s 8 = .p (I l.length) /\ st.s 9 = .p (I k) /\ st.b 3 = some (.row 30 4 (mbs (S.take j ++ x :: S.drop j)))) k ⟨k,m,rfl,Nat.le_refl _,?_⟩ fun K' N' st hL2 ⟨j,x,hj,hjk,hd,h3,h5,b5,h6,h7,h8,h9,b3⟩=>?_
  ·rw [List.take_of_length_le (by omega), List.drop_of_length_le (by omega)]
   simp [h3,h7,h8,h9,b3,hF,ha]
  have hXl : (S.take j ++ x :: S.drop j).length = k + 1:=by simp;omega
  by_cases hj0 : 0 < j
  ·have hj0' : (0 : Int) < j := by omega
   have hwj : IntKind.i64.wrap ((j : Int) - 1) = ((j - 1 : Nat) : Int):=by rw [zF] <;> omega
   have hjl : j - 1 < (S.take j ++ x :: S.drop j).length:=by omega
   have hY : ∀ h',(S.take j ++ x :: S.drop j)[j - 1]'h' = S[j - 1]:=fun h'=>by rw [get_midS _ _ _ _ (by rw [List.length_take];omega),List.getElem_take]
   have hj1 : j - 1 < k + 1:=by omega
   by_cases hc : m.i < S[j - 1].i
   ·have hset : (mbs (S.take j ++ x :: S.drop j)).set j [I S[j - 1].i, I S[j - 1].r, I S[j - 1].w, I S[j - 1].g] = mbs (S.take (j - 1) ++ S[j - 1] :: S.drop (j - 1)) := by
     rw [mbs_setS,set_midS _ _ _ _ _ (by rw [List.length_take];omega),dropS_prev S j hj0 (by omega),takeS_prev S j hj0 (by omega),List.append_assoc];rfl
    have hd2 : ∀ y ∈ S.drop (j - 1), m.i < y.i := by
     rw [dropS_prev S j hj0 (by omega)]
     intro y hy
     rcases List.mem_cons.1 hy with rfl | hy
     ·exact hc
     ·exact hd y hy
    have hjk1 : j < k + 1:=by omega
    generalize S[j - 1] = p at *
    generalize S.take j ++ x :: S.drop j = Y at *
    repeat' first|(refine hK _ ?_;clear hK)|(refine hK _ _ ?_;clear hK)|(clear hK;refine hK _ ?_;clear hK)|(clear hK;clear hK;refine hK _ ?_;clear hK)|(clear hK;clear hK;clear hK;refine hK _ ?_;clear hK)|(clear hK;clear hK;clear hK;clear hK;refine hK _ ?_;clear hK)|(refine zJ fun K hK=>?_)|((first | refine zH ?_ | refine zN rfl (by kernel_rfl) ?_ | refine zM ?_ | refine zK (by kernel_rfl) ?_);simp only [xA,wZ,strip])|((first | refine wIs fun K hK=>?_ | refine wOs fun K hK=>?_ | refine wQs fun K hK=>?_ | refine zW ?_ | refine zX ?_ | refine zY ?_ | refine zL ?_);simp [h3,h5,b5,h6,h7,h8,h9,b3,hj0,hj0',hwj,hY,hXl,hj1,hjk1,hc,hset])|(refine wIn ?_;refine And.intro (by kernel_rfl) ?_;try simp only [zZ])|(first | refine zQ ?_ | refine zS ?_)|((first | refine zI ?_ | refine zO ?_ | refine zP ?_);try simp)|((first | refine zR ?_ | refine wOn ?_ | refine wQn ?_);try simp only [zZ])
    refine hL2 _ (N' - 1) (by omega) ⟨j - 1,p,by omega,by omega,hd2,?_⟩
    simp [h3,h5,b5,h6,h7,h8,h9,b3,hwj,hset]
   ·have hset : (mbs (S.take j ++ x :: S.drop j)).set j [I m.i, I m.r, I m.w, I m.g] = mbs T := by
     rw [mbs_setS,set_midS _ _ _ _ _ (by rw [List.length_take];omega),hsn]
     conv=>rhs;rw [<- List.take_append_drop j S]
     rw [insM_split m _ hd _ (headS hSo m j (by omega) (.inr ⟨hj0,hc⟩))]
    have hjk1 : j < k + 1:=by omega
    generalize S[j - 1] = p at *
    generalize S.take j ++ x :: S.drop j = Y at *
    repeat' first|(refine hK _ ?_;clear hK)|(refine hK _ _ ?_;clear hK)|(clear hK;refine hK _ ?_;clear hK)|(clear hK;clear hK;refine hK _ ?_;clear hK)|(clear hK;clear hK;clear hK;refine hK _ ?_;clear hK)|(clear hK;clear hK;clear hK;clear hK;refine hK _ ?_;clear hK)|(refine zJ fun K hK=>?_)|((first | refine zH ?_ | refine zN rfl (by kernel_rfl) ?_ | refine zM ?_ | refine zK (by kernel_rfl) ?_);simp only [xA,wZ,strip])|((first | refine wIs fun K hK=>?_ | refine wOs fun K hK=>?_ | refine wQs fun K hK=>?_ | refine zW ?_ | refine zX ?_ | refine zY ?_ | refine zL ?_);simp [h3,h5,b5,h6,h7,h8,h9,b3,hj0,hj0',hwj,hY,hXl,hj1,hjk1,hc,hset,hw])|(refine wIn ?_;refine And.intro (by kernel_rfl) ?_;try simp only [zZ])|(first | refine zQ ?_ | refine zS ?_)|((first | refine zI ?_ | refine zO ?_ | refine zP ?_);try simp)|((first | refine zR ?_ | refine wOn ?_ | refine wQn ?_);try simp only [zZ])
    refine hL _ (N - 1) (by omega) ⟨k + 1,by omega,?_⟩
    simp [h3,h5,b5,h6,h7,h8,h9,b3,hset,hw,hT]
  ·obtain rfl : j = 0 := by omega
   have hset : (mbs (S.take 0 ++ x :: S.drop 0)).set 0 [I m.i, I m.r, I m.w, I m.g] = mbs T := by
    rw [mbs_setS,set_midS _ _ _ _ _ (by simp),hsn]
    conv=>rhs;rw [<- List.take_append_drop 0 S]
    rw [insM_split m _ hd _ (headS hSo m 0 (by omega) (.inl rfl))]
   have hjk1 : 0 < k + 1:=by omega
   generalize S.take 0 ++ x :: S.drop 0 = Y at *
   repeat' first|(refine hK _ ?_;clear hK)|(refine hK _ _ ?_;clear hK)|(clear hK;refine hK _ ?_;clear hK)|(clear hK;clear hK;refine hK _ ?_;clear hK)|(clear hK;clear hK;clear hK;refine hK _ ?_;clear hK)|(clear hK;clear hK;clear hK;clear hK;refine hK _ ?_;clear hK)|(refine zJ fun K hK=>?_)|((first | refine zH ?_ | refine zN rfl (by kernel_rfl) ?_ | refine zM ?_ | refine zK (by kernel_rfl) ?_);simp only [xA,wZ,strip])|((first | refine wIs fun K hK=>?_ | refine wOs fun K hK=>?_ | refine wQs fun K hK=>?_ | refine zW ?_ | refine zX ?_ | refine zY ?_ | refine zL ?_);simp [h3,h5,b5,h6,h7,h8,h9,b3,hXl,hjk1,hset,hw])|(refine wIn ?_;refine And.intro (by kernel_rfl) ?_;try simp only [zZ])|(first | refine zQ ?_ | refine zS ?_)|((first | refine zI ?_ | refine zO ?_ | refine zP ?_);try simp)|((first | refine zR ?_ | refine wOn ?_ | refine wQn ?_);try simp only [zZ])
   refine hL _ (N - 1) (by omega) ⟨k + 1,by omega,?_⟩
   simp [h3,h5,b5,h6,h7,h8,h9,b3,hset,hw,hT]
 ·rw [List.take_of_length_le (by omega)] at b3
  generalize yR l = S at *
  repeat' first|(refine hK _ ?_;clear hK)|(refine hK _ _ ?_;clear hK)|(clear hK;refine hK _ ?_;clear hK)|(clear hK;clear hK;refine hK _ ?_;clear hK)|(clear hK;clear hK;clear hK;refine hK _ ?_;clear hK)|(clear hK;clear hK;clear hK;clear hK;refine hK _ ?_;clear hK)|(refine zJ fun K hK=>?_)|((first | refine zH ?_ | refine zN rfl (by kernel_rfl) ?_ | refine zM ?_ | refine zK (by kernel_rfl) ?_);simp only [xA,wZ,strip])|((first | refine wIs fun K hK=>?_ | refine wOs fun K hK=>?_ | refine wQs fun K hK=>?_ | refine zW ?_ | refine zX ?_ | refine zY ?_ | refine zL ?_);simp [h3,h7,h8,h9,b3,hlt])|(refine wIn ?_;refine And.intro (by kernel_rfl) ?_;try simp only [zZ])|(first | refine zQ ?_ | refine zS ?_)|((first | refine zI ?_ | refine zO ?_ | refine zP ?_);try simp)|((first | refine zR ?_ | refine wOn ?_ | refine wQn ?_);try simp only [zZ])
  all_goals refine hr _ 3 (by simp [h3]) (by simp [b3]) (by omega)
theorem sort04_con (l : List Mb) (hl : l.length <= 1000000) : zE Tryd.prog 19 [.p (.sl 4 (mbs l))] (.p (.sl 4 (mbs (yR l)))) := (sort04R_con l hl).toPure
end Go.Proofs.YtjekjpgccnhobaaDoor
namespace Go.Proofs.YtjekjpgccnhobaaDoor
set_option linter.unusedSimpArgs false
set_option linter.unusedVariables false
set_option maxRecDepth 8000
open Go Go.Av
attribute [local irreducible] Go.Av.xB Go.Av.zU Go.Av.CallQ Go.Av.zT Go.Av.CallR Go.Av.zV Go.Av.Con
set_option maxHeartbeats 4000000 in
theorem configSorts_con (a b : Cf) (hz : a.ms.length <= 9223372036854775807) (hz2 : b.ms.length <= 9223372036854775807) : zE Tryd.prog 4 [.p (.agg a.cells), .p (.agg b.cells)] (.p (B true)) := by
 have c0:=far04_con a hz
 have c1:=far04_con b hz2
 have ca:=awake04
 by_cases hf : 300 < a.ms.length
 ·rw [decide_eq_true hf] at c0
  unfold Cf.cells at *
  clear hz hz2 hf c1
  refine zG Tryd.tab Tryd.mixed Tryd.func4 rfl rfl Tryd.ntmps4 (by simp) (by simp) fun Q hr hn=>?_
  repeat' first|(refine hK _ ?_;clear hK)|(refine hK _ _ ?_;clear hK)|(clear hK;refine hK _ ?_;clear hK)|(clear hK;clear hK;refine hK _ ?_;clear hK)|(clear hK;clear hK;clear hK;refine hK _ ?_;clear hK)|(clear hK;clear hK;clear hK;clear hK;refine hK _ ?_;clear hK)|(refine zJ fun K hK=>?_)|((first | refine zH ?_ | refine zN rfl (by kernel_rfl) ?_ | refine zM ?_ | refine zK (by kernel_rfl) ?_);simp only [xA,wZ,strip])|((first | refine wIs fun K hK=>?_ | refine wOs fun K hK=>?_ | refine wQs fun K hK=>?_ | refine zW ?_ | refine zX ?_ | refine zY ?_ | refine zL ?_);simp)|(refine wIn ?_;refine And.intro (by kernel_rfl) ?_;try simp only [zZ])|(first | refine zQ ?_ | refine zS ?_)|((first | refine zI ?_ | refine zO ?_ | refine zP ?_);try simp)|((first | refine zR ?_ | refine wOn ?_ | refine wQn ?_);try simp only [zZ])|(refine zU.pure (c0) rfl ?_)|(refine zU.lent (c0) rfl ?_)|(refine zT.pure (c0) rfl ?_)|(refine zT.lent (c0) rfl ?_)|(refine zU.own (c0) ?_)|(refine zV.pure (c0) rfl ?_)|(refine zV.lent (c0) rfl ?_)|(refine zV.own (c0) ?_)|(refine zU.pure (ca) rfl ?_)|(refine zU.lent (ca) rfl ?_)|(refine zT.pure (ca) rfl ?_)|(refine zT.lent (ca) rfl ?_)|(refine zU.own (ca) ?_)|(refine zV.pure (ca) rfl ?_)|(refine zV.lent (ca) rfl ?_)|(refine zV.own (ca) ?_)
  all_goals apply hr
  all_goals simp [Tryd.f4]
 rw [decide_eq_false hf] at c0
 by_cases hg : 300 < b.ms.length
 ·rw [decide_eq_true hg] at c1
  unfold Cf.cells at *
  clear hz hz2 hf hg
  refine zG Tryd.tab Tryd.mixed Tryd.func4 rfl rfl Tryd.ntmps4 (by simp) (by simp) fun Q hr hn=>?_
  repeat' first|(refine hK _ ?_;clear hK)|(refine hK _ _ ?_;clear hK)|(clear hK;refine hK _ ?_;clear hK)|(clear hK;clear hK;refine hK _ ?_;clear hK)|(clear hK;clear hK;clear hK;refine hK _ ?_;clear hK)|(clear hK;clear hK;clear hK;clear hK;refine hK _ ?_;clear hK)|(refine zJ fun K hK=>?_)|((first | refine zH ?_ | refine zN rfl (by kernel_rfl) ?_ | refine zM ?_ | refine zK (by kernel_rfl) ?_);simp only [xA,wZ,strip])|((first | refine wIs fun K hK=>?_ | refine wOs fun K hK=>?_ | refine wQs fun K hK=>?_ | refine zW ?_ | refine zX ?_ | refine zY ?_ | refine zL ?_);simp)|(refine wIn ?_;refine And.intro (by kernel_rfl) ?_;try simp only [zZ])|(first | refine zQ ?_ | refine zS ?_)|((first | refine zI ?_ | refine zO ?_ | refine zP ?_);try simp)|((first | refine zR ?_ | refine wOn ?_ | refine wQn ?_);try simp only [zZ])|(refine zU.pure (c0) rfl ?_)|(refine zU.lent (c0) rfl ?_)|(refine zT.pure (c0) rfl ?_)|(refine zT.lent (c0) rfl ?_)|(refine zU.own (c0) ?_)|(refine zV.pure (c0) rfl ?_)|(refine zV.lent (c0) rfl ?_)|(refine zV.own (c0) ?_)|(refine zU.pure (c1) rfl ?_)|(refine zU.lent (c1) rfl ?_)|(refine zT.pure (c1) rfl ?_)|(refine zT.lent (c1) rfl ?_)|(refine zU.own (c1) ?_)|(refine zV.pure (c1) rfl ?_)|(refine zV.lent (c1) rfl ?_)|(refine zV.own (c1) ?_)|(refine zU.pure (ca) rfl ?_)|(refine zU.lent (ca) rfl ?_)|(refine zT.pure (ca) rfl ?_)|(refine zT.lent (ca) rfl ?_)|(refine zU.own (ca) ?_)|(refine zV.pure (ca) rfl ?_)|(refine zV.lent (ca) rfl ?_)|(refine zV.own (ca) ?_)
  all_goals apply hr
  all_goals simp [Tryd.f4]
 rw [decide_eq_false hg] at c1
 have c2:=(sortW_con a.ms (by omega)).toPure
 have c3:=sort04_con a.ms (by omega)
 rw [stS_srt] at c2
 have c4:=cfSame04_con ⟨0,0,0,yR a.ms⟩ ⟨0,0,0,yR a.ms⟩
 rw [decide_eq_true rfl] at c4
 have c5:=cfSame_con a b
 have c6:=cfSame04_con a b
 have c7:=cfSame_con a a
 rw [decide_eq_true rfl] at c7
 generalize yR a.ms = S at *
 generalize decide (a = b) = d at *
 unfold Cf.cells at *
 dsimp only at *
 clear hz hz2 hf hg
 refine zG Tryd.tab Tryd.mixed Tryd.func4 rfl rfl Tryd.ntmps4 (by simp) (by simp) fun Q hr hn=>?_
 repeat' first|(refine hK _ ?_;clear hK)|(refine hK _ _ ?_;clear hK)|(clear hK;refine hK _ ?_;clear hK)|(clear hK;clear hK;refine hK _ ?_;clear hK)|(clear hK;clear hK;clear hK;refine hK _ ?_;clear hK)|(clear hK;clear hK;clear hK;clear hK;refine hK _ ?_;clear hK)|(refine zJ fun K hK=>?_)|((first | refine zH ?_ | refine zN rfl (by kernel_rfl) ?_ | refine zM ?_ | refine zK (by kernel_rfl) ?_);simp only [xA,wZ,strip])|((first | refine wIs fun K hK=>?_ | refine wOs fun K hK=>?_ | refine wQs fun K hK=>?_ | refine zW ?_ | refine zX ?_ | refine zY ?_ | refine zL ?_);simp)|(refine wIn ?_;refine And.intro (by kernel_rfl) ?_;try simp only [zZ])|(first | refine zQ ?_ | refine zS ?_)|((first | refine zI ?_ | refine zO ?_ | refine zP ?_);try simp)|((first | refine zR ?_ | refine wOn ?_ | refine wQn ?_);try simp only [zZ])|(refine zU.pure (c0) rfl ?_)|(refine zU.lent (c0) rfl ?_)|(refine zT.pure (c0) rfl ?_)|(refine zT.lent (c0) rfl ?_)|(refine zU.own (c0) ?_)|(refine zV.pure (c0) rfl ?_)|(refine zV.lent (c0) rfl ?_)|(refine zV.own (c0) ?_)|(refine zU.pure (c1) rfl ?_)|(refine zU.lent (c1) rfl ?_)|(refine zT.pure (c1) rfl ?_)|(refine zT.lent (c1) rfl ?_)|(refine zU.own (c1) ?_)|(refine zV.pure (c1) rfl ?_)|(refine zV.lent (c1) rfl ?_)|(refine zV.own (c1) ?_)|(refine zU.pure (c2) rfl ?_)|(refine zU.lent (c2) rfl ?_)|(refine zT.pure (c2) rfl ?_)|(refine zT.lent (c2) rfl ?_)|(refine zU.own (c2) ?_)|(refine zV.pure (c2) rfl ?_)|(refine zV.lent (c2) rfl ?_)|(refine zV.own (c2) ?_)|(refine zU.pure (c3) rfl ?_)|(refine zU.lent (c3) rfl ?_)|(refine zT.pure (c3) rfl ?_)|(refine zT.lent (c3) rfl ?_)|(refine zU.own (c3) ?_)|(refine zV.pure (c3) rfl ?_)|(refine zV.lent (c3) rfl ?_)|(refine zV.own (c3) ?_)|(refine zU.pure (c4) rfl ?_)|(refine zU.lent (c4) rfl ?_)|(refine zT.pure (c4) rfl ?_)|(refine zT.lent (c4) rfl ?_)|(refine zU.own (c4) ?_)|(refine zV.pure (c4) rfl ?_)|(refine zV.lent (c4) rfl ?_)|(refine zV.own (c4) ?_)|(refine zU.pure (c5) rfl ?_)|(refine zU.lent (c5) rfl ?_)|(refine zT.pure (c5) rfl ?_)|(refine zT.lent (c5) rfl ?_)|(refine zU.own (c5) ?_)|(refine zV.pure (c5) rfl ?_)|(refine zV.lent (c5) rfl ?_)|(refine zV.own (c5) ?_)|(refine zU.pure (c6) rfl ?_)|(refine zU.lent (c6) rfl ?_)|(refine zT.pure (c6) rfl ?_)|(refine zT.lent (c6) rfl ?_)|(refine zU.own (c6) ?_)|(refine zV.pure (c6) rfl ?_)|(refine zV.lent (c6) rfl ?_)|(refine zV.own (c6) ?_)|(refine zU.pure (c7) rfl ?_)|(refine zU.lent (c7) rfl ?_)|(refine zT.pure (c7) rfl ?_)|(refine zT.lent (c7) rfl ?_)|(refine zU.own (c7) ?_)|(refine zV.pure (c7) rfl ?_)|(refine zV.lent (c7) rfl ?_)|(refine zV.own (c7) ?_)|(refine zU.pure (ca) rfl ?_)|(refine zU.lent (ca) rfl ?_)|(refine zT.pure (ca) rfl ?_)|(refine zT.lent (ca) rfl ?_)|(refine zU.own (ca) ?_)|(refine zV.pure (ca) rfl ?_)|(refine zV.lent (ca) rfl ?_)|(refine zV.own (ca) ?_)
 all_goals apply hr
 all_goals simp [Tryd.f4]
end Go.Proofs.YtjekjpgccnhobaaDoor
