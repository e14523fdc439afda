/- Texts that the proof needs: ZT QB QC. -/
import Derived.Test.YtjekjpgccnhobaaDoorP24ConfigChecks
/- Layer 2: texts, read and written; the laws ZxidTexts, ZxidBack. -/
namespace Go.Proofs.YtjekjpgccnhobaaDoor
set_option linter.unusedSimpArgs false
set_option linter.unusedVariables false
open Go Go.Av
attribute [local irreducible] Go.Av.CallK Go.Av.zZ Go.Av.CallQ Go.Av.zT Go.Av.CallR Go.Av.zY Go.Av.Con
def ix (l : List UInt8) : Nat := l.findIdx (· == 46)
theorem ix_le (l : List UInt8) : ix l ≤ l.length := List.findIdx_le_length
theorem indexByte_ix (l : List UInt8) : Go.Lib.indexByte l 46 = if ix l = l.length then -1 else (ix l : Int) := by
  induction l with
  | nil=>rfl
  | cons a r ih =>
    unfold Go.Lib.indexByte ix
    rw [List.findIdx_cons]
    cases h : a == 46 with
    | true=>simp
    | false =>
      have hix : List.findIdx (· == 46) r = ix r:=rfl
      simp only [Bool.false_eq_true,if_false,cond_false,hix,List.length_cons]
      rw [ih]
      by_cases g : ix r = r.length
      · rw [if_pos g,if_pos (by simp),if_pos (by omega)]
      · rw [if_neg g, if_neg (by simp), if_neg (by omega)]
        push_cast;rfl
def prs (l : List UInt8) : Zx × Int :=
  if ix l = l.length then (⟨0,0⟩,3) else if (num (l.take (ix l))).2 = true ∧ (num (l.drop (ix l + 1))).2 = true then (⟨(num (l.take (ix l))).1,(num (l.drop (ix l + 1))).1⟩,0) else (⟨0,0⟩,3)
theorem indexB_con (l : List UInt8) : zF Tryd.prog 68 [.p (SB l), .p (.v (.int .u8 46))] (.p (I (Go.Lib.indexByte l 46))) := by
  have c:=indexByteString_con (bs l) 46
  simp only [bs_list,show (46 : Int).toNat.toUInt8 = 46 from rfl] at c
  refine zJ Tryd.tab Tryd.mixed Tryd.func68 rfl rfl Tryd.ntmps68 (by simp) (by simp) fun Q hr hn=>?_
  repeat' first|(refine hK _ ?_;clear hK)|(refine hK _ _ ?_;clear hK)|(clear hK;refine hK _ ?_;clear hK)|(clear hK;clear hK;refine hK _ ?_;clear hK)|(clear hK;clear hK;clear hK;refine hK _ ?_;clear hK)|(clear hK;clear hK;clear hK;clear hK;refine hK _ ?_;clear hK)|(refine zI fun K hK=>?_)|((first | refine zG ?_ | refine zN rfl (by kernel_rfl) ?_ | refine zM ?_ | refine zK (by kernel_rfl) ?_);simp only [xI,xH,strip])|((first | refine wIs fun K hK=>?_ | refine wOs fun K hK=>?_ | refine wQs fun K hK=>?_ | refine zU ?_ | refine zV ?_ | refine zW ?_ | refine zL ?_);simp)|(refine wIn ?_;refine And.intro (by kernel_rfl) ?_;try simp only [zX])|(first | refine zQ ?_ | refine zS ?_)|((first | refine zH ?_ | refine zO ?_ | refine zP ?_);try simp)|((first | refine zR ?_ | refine wOn ?_ | refine wQn ?_);try simp only [zX])|(refine zZ.pure (c) rfl ?_)|(refine zZ.lent (c) rfl ?_)|(refine zT.pure (c) rfl ?_)|(refine zT.lent (c) rfl ?_)|(refine zZ.own (c) ?_)|(refine zY.pure (c) rfl ?_)|(refine zY.lent (c) rfl ?_)|(refine zY.own (c) ?_)
  all_goals apply hr
  all_goals simp [Tryd.f68]
theorem index1_con (l : List UInt8) : zF Tryd.prog 61 [.p (SB l), .p (SB [46])] (.p (I (Go.Lib.indexByte l 46))) := by
  have c:=indexB_con l
  by_cases h : l = [46]
  · subst h
    have e : Go.Lib.indexByte [46] 46 = 0:=rfl
    rw [e] at c ⊢
    refine zJ Tryd.tab Tryd.mixed Tryd.func61 rfl rfl Tryd.ntmps61 (by simp) (by simp) fun Q hr hn=>?_
    repeat' first|(refine hK _ ?_;clear hK)|(refine hK _ _ ?_;clear hK)|(clear hK;refine hK _ ?_;clear hK)|(clear hK;clear hK;refine hK _ ?_;clear hK)|(clear hK;clear hK;clear hK;refine hK _ ?_;clear hK)|(clear hK;clear hK;clear hK;clear hK;refine hK _ ?_;clear hK)|(refine zI fun K hK=>?_)|((first | refine zG ?_ | refine zN rfl (by kernel_rfl) ?_ | refine zM ?_ | refine zK (by kernel_rfl) ?_);simp only [xI,xH,strip])|((first | refine wIs fun K hK=>?_ | refine wOs fun K hK=>?_ | refine wQs fun K hK=>?_ | refine zU ?_ | refine zV ?_ | refine zW ?_ | refine zL ?_);simp)|(refine wIn ?_;refine And.intro (by kernel_rfl) ?_;try simp only [zX])|(first | refine zQ ?_ | refine zS ?_)|((first | refine zH ?_ | refine zO ?_ | refine zP ?_);try simp)|((first | refine zR ?_ | refine wOn ?_ | refine wQn ?_);try simp only [zX])|(refine zZ.pure (c) rfl ?_)|(refine zZ.lent (c) rfl ?_)|(refine zT.pure (c) rfl ?_)|(refine zT.lent (c) rfl ?_)|(refine zZ.own (c) ?_)|(refine zY.pure (c) rfl ?_)|(refine zY.lent (c) rfl ?_)|(refine zY.own (c) ?_)
    all_goals apply hr
    all_goals simp [Tryd.f61]
  · have h' : ¬ [46] = l := fun e => h e.symm
    refine zJ Tryd.tab Tryd.mixed Tryd.func61 rfl rfl Tryd.ntmps61 (by simp) (by simp) fun Q hr hn=>?_
    repeat' first|(refine hK _ ?_;clear hK)|(refine hK _ _ ?_;clear hK)|(clear hK;refine hK _ ?_;clear hK)|(clear hK;clear hK;refine hK _ ?_;clear hK)|(clear hK;clear hK;clear hK;refine hK _ ?_;clear hK)|(clear hK;clear hK;clear hK;clear hK;refine hK _ ?_;clear hK)|(refine zI fun K hK=>?_)|((first | refine zG ?_ | refine zN rfl (by kernel_rfl) ?_ | refine zM ?_ | refine zK (by kernel_rfl) ?_);simp only [xI,xH,strip])|((first | refine wIs fun K hK=>?_ | refine wOs fun K hK=>?_ | refine wQs fun K hK=>?_ | refine zU ?_ | refine zV ?_ | refine zW ?_ | refine zL ?_);simp [h,h'])|(refine wIn ?_;refine And.intro (by kernel_rfl) ?_;try simp only [zX])|(first | refine zQ ?_ | refine zS ?_)|((first | refine zH ?_ | refine zO ?_ | refine zP ?_);try simp)|((first | refine zR ?_ | refine wOn ?_ | refine wQn ?_);try simp only [zX])|(refine zZ.pure (c) rfl ?_)|(refine zZ.lent (c) rfl ?_)|(refine zT.pure (c) rfl ?_)|(refine zT.lent (c) rfl ?_)|(refine zZ.own (c) ?_)|(refine zY.pure (c) rfl ?_)|(refine zY.lent (c) rfl ?_)|(refine zY.own (c) ?_)
    all_goals apply hr
    all_goals simp [Tryd.f61]
def cutV (l : List UInt8) : V := if ix l = l.length then .tup [.p (SB l), .p (SB []), .p (B false)] else .tup [.p (SB (l.take (ix l))), .p (SB (l.drop (ix l + 1))), .p (B true)]
theorem cutL_con (l : List UInt8) (hl : l.length ≤ 9223372036854775807) : zF Tryd.prog 56 [.p (SB l), .p (SB [46])] (cutV l) := by
  have c:=index1_con l
  rw [indexByte_ix] at c
  have hle:=ix_le l
  unfold cutV
  by_cases h : ix l = l.length
  · rw [if_pos h] at c ⊢
    refine zJ Tryd.tab Tryd.mixed Tryd.func56 rfl rfl Tryd.ntmps56 (by simp) (by simp) fun Q hr hn=>?_
    repeat' first|(refine hK _ ?_;clear hK)|(refine hK _ _ ?_;clear hK)|(clear hK;refine hK _ ?_;clear hK)|(clear hK;clear hK;refine hK _ ?_;clear hK)|(clear hK;clear hK;clear hK;refine hK _ ?_;clear hK)|(clear hK;clear hK;clear hK;clear hK;refine hK _ ?_;clear hK)|(refine zI fun K hK=>?_)|((first | refine zG ?_ | refine zN rfl (by kernel_rfl) ?_ | refine zM ?_ | refine zK (by kernel_rfl) ?_);simp only [xI,xH,strip])|((first | refine wIs fun K hK=>?_ | refine wOs fun K hK=>?_ | refine wQs fun K hK=>?_ | refine zU ?_ | refine zV ?_ | refine zW ?_ | refine zL ?_);simp)|(refine wIn ?_;refine And.intro (by kernel_rfl) ?_;try simp only [zX])|(first | refine zQ ?_ | refine zS ?_)|((first | refine zH ?_ | refine zO ?_ | refine zP ?_);try simp)|((first | refine zR ?_ | refine wOn ?_ | refine wQn ?_);try simp only [zX])|(refine zZ.pure (c) rfl ?_)|(refine zZ.lent (c) rfl ?_)|(refine zT.pure (c) rfl ?_)|(refine zT.lent (c) rfl ?_)|(refine zZ.own (c) ?_)|(refine zY.pure (c) rfl ?_)|(refine zY.lent (c) rfl ?_)|(refine zY.own (c) ?_)
    all_goals apply hr
    all_goals simp [Tryd.f56]
  · rw [if_neg h] at c ⊢
    have hlt : ix l < l.length:=by omega
    have hw : IntKind.i64.wrap ((ix l : Int) + 1) = ((ix l + 1 : Nat) : Int):=by rw [yT] <;> omega
    have h1 : ix l + 1 ≤ l.length:=by omega
    have h0 : (0 : Int) ≤ (ix l : Int) + 1:=by omega
    have ht : (((ix l + 1 : Nat) : Int)).toNat = ix l + 1:=by omega
    generalize ix l = x at *
    refine zJ Tryd.tab Tryd.mixed Tryd.func56 rfl rfl Tryd.ntmps56 (by simp) (by simp) fun Q hr hn=>?_
    repeat' first|(refine hK _ ?_;clear hK)|(refine hK _ _ ?_;clear hK)|(clear hK;refine hK _ ?_;clear hK)|(clear hK;clear hK;refine hK _ ?_;clear hK)|(clear hK;clear hK;clear hK;refine hK _ ?_;clear hK)|(clear hK;clear hK;clear hK;clear hK;refine hK _ ?_;clear hK)|(refine zI fun K hK=>?_)|((first | refine zG ?_ | refine zN rfl (by kernel_rfl) ?_ | refine zM ?_ | refine zK (by kernel_rfl) ?_);simp only [xI,xH,strip])|((first | refine wIs fun K hK=>?_ | refine wOs fun K hK=>?_ | refine wQs fun K hK=>?_ | refine zU ?_ | refine zV ?_ | refine zW ?_ | refine zL ?_);simp [hw,hle,h1,h0,ht])|(refine wIn ?_;refine And.intro (by kernel_rfl) ?_;try simp only [zX])|(first | refine zQ ?_ | refine zS ?_)|((first | refine zH ?_ | refine zO ?_ | refine zP ?_);try simp)|((first | refine zR ?_ | refine wOn ?_ | refine wQn ?_);try simp only [zX])|(refine zZ.pure (c) rfl ?_)|(refine zZ.lent (c) rfl ?_)|(refine zT.pure (c) rfl ?_)|(refine zT.lent (c) rfl ?_)|(refine zZ.own (c) ?_)|(refine zY.pure (c) rfl ?_)|(refine zY.lent (c) rfl ?_)|(refine zY.own (c) ?_)
    all_goals apply hr
    all_goals simp [Tryd.f56]
theorem cut_con (l : List UInt8) (hl : l.length ≤ 9223372036854775807) : zF Tryd.prog 48 [.p (SB l), .p (SB [46])] (cutV l) := by
  have c:=cutL_con l hl
  unfold cutV at c ⊢
  by_cases h : ix l = l.length
  · rw [if_pos h] at c ⊢
    refine zJ Tryd.tab Tryd.mixed Tryd.func48 rfl rfl Tryd.ntmps48 (by simp) (by simp) fun Q hr hn=>?_
    repeat' first|(refine hK _ ?_;clear hK)|(refine hK _ _ ?_;clear hK)|(clear hK;refine hK _ ?_;clear hK)|(clear hK;clear hK;refine hK _ ?_;clear hK)|(clear hK;clear hK;clear hK;refine hK _ ?_;clear hK)|(clear hK;clear hK;clear hK;clear hK;refine hK _ ?_;clear hK)|(refine zI fun K hK=>?_)|((first | refine zG ?_ | refine zN rfl (by kernel_rfl) ?_ | refine zM ?_ | refine zK (by kernel_rfl) ?_);simp only [xI,xH,strip])|((first | refine wIs fun K hK=>?_ | refine wOs fun K hK=>?_ | refine wQs fun K hK=>?_ | refine zU ?_ | refine zV ?_ | refine zW ?_ | refine zL ?_);simp)|(refine wIn ?_;refine And.intro (by kernel_rfl) ?_;try simp only [zX])|(first | refine zQ ?_ | refine zS ?_)|((first | refine zH ?_ | refine zO ?_ | refine zP ?_);try simp)|((first | refine zR ?_ | refine wOn ?_ | refine wQn ?_);try simp only [zX])|(refine zZ.pure (c) rfl ?_)|(refine zZ.lent (c) rfl ?_)|(refine zT.pure (c) rfl ?_)|(refine zT.lent (c) rfl ?_)|(refine zZ.own (c) ?_)|(refine zY.pure (c) rfl ?_)|(refine zY.lent (c) rfl ?_)|(refine zY.own (c) ?_)
    all_goals apply hr
    all_goals simp [Tryd.f48]
  · rw [if_neg h] at c ⊢
    refine zJ Tryd.tab Tryd.mixed Tryd.func48 rfl rfl Tryd.ntmps48 (by simp) (by simp) fun Q hr hn=>?_
    repeat' first|(refine hK _ ?_;clear hK)|(refine hK _ _ ?_;clear hK)|(clear hK;refine hK _ ?_;clear hK)|(clear hK;clear hK;refine hK _ ?_;clear hK)|(clear hK;clear hK;clear hK;refine hK _ ?_;clear hK)|(clear hK;clear hK;clear hK;clear hK;refine hK _ ?_;clear hK)|(refine zI fun K hK=>?_)|((first | refine zG ?_ | refine zN rfl (by kernel_rfl) ?_ | refine zM ?_ | refine zK (by kernel_rfl) ?_);simp only [xI,xH,strip])|((first | refine wIs fun K hK=>?_ | refine wOs fun K hK=>?_ | refine wQs fun K hK=>?_ | refine zU ?_ | refine zV ?_ | refine zW ?_ | refine zL ?_);simp)|(refine wIn ?_;refine And.intro (by kernel_rfl) ?_;try simp only [zX])|(first | refine zQ ?_ | refine zS ?_)|((first | refine zH ?_ | refine zO ?_ | refine zP ?_);try simp)|((first | refine zR ?_ | refine wOn ?_ | refine wQn ?_);try simp only [zX])|(refine zZ.pure (c) rfl ?_)|(refine zZ.lent (c) rfl ?_)|(refine zT.pure (c) rfl ?_)|(refine zT.lent (c) rfl ?_)|(refine zZ.own (c) ?_)|(refine zY.pure (c) rfl ?_)|(refine zY.lent (c) rfl ?_)|(refine zY.own (c) ?_)
    all_goals apply hr
    all_goals simp [Tryd.f48]
theorem parse_con (l : List UInt8) (hl : l.length ≤ 9223372036854775807) : zF Tryd.prog 41 [.p (SB l)] (.tup [.p (.agg [I (prs l).1.e, I (prs l).1.n]), .p (I (prs l).2)]) := by
  have c:=cut_con l hl
  unfold cutV at c
  unfold prs
  by_cases h : ix l = l.length
  · rw [if_pos h] at c ⊢
    have c1:=number_con l hl
    have c2:=number_con [] (by simp)
    rw [show num [] = (0,false) from rfl] at c2
    generalize num l = p at c1
    refine zJ Tryd.tab Tryd.mixed Tryd.func41 rfl rfl Tryd.ntmps41 (by simp) (by simp) fun Q hr hn=>?_
    repeat' first|(refine hK _ ?_;clear hK)|(refine hK _ _ ?_;clear hK)|(clear hK;refine hK _ ?_;clear hK)|(clear hK;clear hK;refine hK _ ?_;clear hK)|(clear hK;clear hK;clear hK;refine hK _ ?_;clear hK)|(clear hK;clear hK;clear hK;clear hK;refine hK _ ?_;clear hK)|(refine zI fun K hK=>?_)|((first | refine zG ?_ | refine zN rfl (by kernel_rfl) ?_ | refine zM ?_ | refine zK (by kernel_rfl) ?_);simp only [xI,xH,strip])|((first | refine wIs fun K hK=>?_ | refine wOs fun K hK=>?_ | refine wQs fun K hK=>?_ | refine zU ?_ | refine zV ?_ | refine zW ?_ | refine zL ?_);simp)|(refine wIn ?_;refine And.intro (by kernel_rfl) ?_;try simp only [zX])|(first | refine zQ ?_ | refine zS ?_)|((first | refine zH ?_ | refine zO ?_ | refine zP ?_);try simp)|((first | refine zR ?_ | refine wOn ?_ | refine wQn ?_);try simp only [zX])|(refine zZ.pure (c) rfl ?_)|(refine zZ.lent (c) rfl ?_)|(refine zT.pure (c) rfl ?_)|(refine zT.lent (c) rfl ?_)|(refine zZ.own (c) ?_)|(refine zY.pure (c) rfl ?_)|(refine zY.lent (c) rfl ?_)|(refine zY.own (c) ?_)|(refine zZ.pure (c1) rfl ?_)|(refine zZ.lent (c1) rfl ?_)|(refine zT.pure (c1) rfl ?_)|(refine zT.lent (c1) rfl ?_)|(refine zZ.own (c1) ?_)|(refine zY.pure (c1) rfl ?_)|(refine zY.lent (c1) rfl ?_)|(refine zY.own (c1) ?_)|(refine zZ.pure (c2) rfl ?_)|(refine zZ.lent (c2) rfl ?_)|(refine zT.pure (c2) rfl ?_)|(refine zT.lent (c2) rfl ?_)|(refine zZ.own (c2) ?_)|(refine zY.pure (c2) rfl ?_)|(refine zY.lent (c2) rfl ?_)|(refine zY.own (c2) ?_)
    all_goals apply hr
    all_goals simp [Tryd.f41]
  · rw [if_neg h] at c ⊢
    have c1:=number_con (l.take (ix l)) (by simp;omega)
    have c2:=number_con (l.drop (ix l + 1)) (by simp;omega)
    generalize num (l.take (ix l)) = p at c1
    generalize num (l.drop (ix l + 1)) = q at c2
    obtain ⟨p1,p2⟩:=p
    obtain ⟨q1,q2⟩:=q
    cases p2 <;> cases q2
    all_goals simp only [Bool.false_eq_true,and_false,false_and,and_self,if_false,if_true] at c1 c2 ⊢
    all_goals refine zJ Tryd.tab Tryd.mixed Tryd.func41 rfl rfl Tryd.ntmps41 (by simp) (by simp) fun Q hr hn=>?_
    all_goals repeat' first|(refine hK _ ?_;clear hK)|(refine hK _ _ ?_;clear hK)|(clear hK;refine hK _ ?_;clear hK)|(clear hK;clear hK;refine hK _ ?_;clear hK)|(clear hK;clear hK;clear hK;refine hK _ ?_;clear hK)|(clear hK;clear hK;clear hK;clear hK;refine hK _ ?_;clear hK)|(refine zI fun K hK=>?_)|((first | refine zG ?_ | refine zN rfl (by kernel_rfl) ?_ | refine zM ?_ | refine zK (by kernel_rfl) ?_);simp only [xI,xH,strip])|((first | refine wIs fun K hK=>?_ | refine wOs fun K hK=>?_ | refine wQs fun K hK=>?_ | refine zU ?_ | refine zV ?_ | refine zW ?_ | refine zL ?_);simp)|(refine wIn ?_;refine And.intro (by kernel_rfl) ?_;try simp only [zX])|(first | refine zQ ?_ | refine zS ?_)|((first | refine zH ?_ | refine zO ?_ | refine zP ?_);try simp)|((first | refine zR ?_ | refine wOn ?_ | refine wQn ?_);try simp only [zX])|(refine zZ.pure (c) rfl ?_)|(refine zZ.lent (c) rfl ?_)|(refine zT.pure (c) rfl ?_)|(refine zT.lent (c) rfl ?_)|(refine zZ.own (c) ?_)|(refine zY.pure (c) rfl ?_)|(refine zY.lent (c) rfl ?_)|(refine zY.own (c) ?_)|(refine zZ.pure (c1) rfl ?_)|(refine zZ.lent (c1) rfl ?_)|(refine zT.pure (c1) rfl ?_)|(refine zT.lent (c1) rfl ?_)|(refine zZ.own (c1) ?_)|(refine zY.pure (c1) rfl ?_)|(refine zY.lent (c1) rfl ?_)|(refine zY.own (c1) ?_)|(refine zZ.pure (c2) rfl ?_)|(refine zZ.lent (c2) rfl ?_)|(refine zT.pure (c2) rfl ?_)|(refine zT.lent (c2) rfl ?_)|(refine zZ.own (c2) ?_)|(refine zY.pure (c2) rfl ?_)|(refine zY.lent (c2) rfl ?_)|(refine zY.own (c2) ?_)
    all_goals apply hr
    all_goals simp [Tryd.f41]
def txt (z : Zx) : List UInt8 := if rgt z.e = true ∧ rgt z.n = true then Go.Lib.itoa z.e ++ 46 :: Go.Lib.itoa z.n else []
theorem dv_app (m : List UInt8) (d : UInt8) : dv (m ++ [d]) = 10 * dv m + ((d.toNat : Int) - 48) := by
  simp [dv,List.foldl_append]
theorem dig_of (k : Nat) (h : k < 10) : dig (UInt8.ofNat (48 + k)) = true ∧ ((UInt8.ofNat (48 + k)).toNat : Int) - 48 = k := by
  have e : (UInt8.ofNat (48 + k)).toNat = 48 + k := by
    rw [UInt8.toNat_ofNat'];omega
  refine ⟨by simp [dig,e];omega,by rw [e];omega⟩
theorem dec_spec : ∀ u : Nat, (Go.Lib.decDigits u).all dig = true ∧ dv (Go.Lib.decDigits u) = u ∧ Go.Lib.decDigits u ≠ [] ∧ (∀ b r, Go.Lib.decDigits u = b :: r → b = 48 → r = []) ∧ (∀ k, u < 10 ^ (k + 1) → (Go.Lib.decDigits u).length ≤ k + 1) := by
  intro u
  induction u using Nat.strongRecOn with
  | _ u ih =>
    by_cases h : u < 10
    · rw [Go.Lib.decDigits, dif_pos h]
      obtain ⟨h1,h2⟩:=dig_of u h
      have hdv : dv [UInt8.ofNat (48 + u)] = 10 * 0 + (((UInt8.ofNat (48 + u)).toNat : Int) - 48):=rfl
      refine ⟨by simp only [List.all_cons,h1,List.all_nil,Bool.and_self],by omega,by simp,fun b r e hb=>by simp at e;exact e.2,fun k _=>by simp⟩
    · rw [Go.Lib.decDigits, dif_neg h]
      obtain ⟨a1,a2,a3,a4,a5⟩:=ih (u / 10) (by omega)
      obtain ⟨h1,h2⟩:=dig_of (u % 10) (by omega)
      refine ⟨by rw [List.all_append,a1,Bool.true_and];simp only [List.all_cons,h1,List.all_nil,Bool.and_self],by rw [dv_app,a2,h2];omega,by simp,fun b r e hb=>?_,fun k hk=>?_⟩
      · exfalso
        cases hd : Go.Lib.decDigits (u / 10) with
        | nil=>exact a3 hd
        | cons c t =>
          rw [hd] at e
          simp only [List.cons_append,List.cons.injEq] at e
          have ht:=a4 c t hd (by rw [e.1];exact hb)
          subst ht
          rw [hd,e.1,hb] at a2
          simp [dv] at a2
          omega
      · cases k with
        | zero=>simp at hk;omega
        | succ k =>
          have:=a5 k (by rw [Nat.pow_succ] at hk;omega)
          simp;omega
theorem itoa_dec {n : Int} (h : rgt n = true) : Go.Lib.itoa n = Go.Lib.decDigits n.toNat := by
  simp only [rgt,decide_eq_true_eq] at h
  unfold Go.Lib.itoa;rw [if_neg (by omega)]
theorem itoa_len {n : Int} (h : rgt n = true) : (Go.Lib.itoa n).length ≤ 13 := by
  rw [itoa_dec h]
  simp only [rgt,decide_eq_true_eq] at h
  exact (dec_spec n.toNat).2.2.2.2 12 (by omega)
theorem text_con (z : Zx) : zF Tryd.prog 33 [.p (.agg [I z.e, I z.n])] (.p (SB (txt z))) := by
  obtain ⟨e,n⟩:=z
  have c1 : zF Tryd.prog 38 [.p (I e)] (.p (B (rgt e))):=counts_con e
  have c2 : zF Tryd.prog 38 [.p (I n)] (.p (B (rgt n))):=counts_con n
  have c3:=fun h=>itoa_con (n:=e) h
  have c4:=fun h=>itoa_con (n:=n) h
  have l3:=fun h=>itoa_len (n:=e) h
  have l4:=fun h=>itoa_len (n:=n) h
  unfold txt
  dsimp only
  generalize Go.Lib.itoa e = x at *
  generalize Go.Lib.itoa n = y at *
  cases h1 : rgt e
  · rw [h1] at c1
    simp only [Bool.false_eq_true,false_and,if_false]
    refine zJ Tryd.tab Tryd.mixed Tryd.func33 rfl rfl Tryd.ntmps33 (by simp) (by simp) fun Q hr hn=>?_
    repeat' first|(refine hK _ ?_;clear hK)|(refine hK _ _ ?_;clear hK)|(clear hK;refine hK _ ?_;clear hK)|(clear hK;clear hK;refine hK _ ?_;clear hK)|(clear hK;clear hK;clear hK;refine hK _ ?_;clear hK)|(clear hK;clear hK;clear hK;clear hK;refine hK _ ?_;clear hK)|(refine zI fun K hK=>?_)|((first | refine zG ?_ | refine zN rfl (by kernel_rfl) ?_ | refine zM ?_ | refine zK (by kernel_rfl) ?_);simp only [xI,xH,strip])|((first | refine wIs fun K hK=>?_ | refine wOs fun K hK=>?_ | refine wQs fun K hK=>?_ | refine zU ?_ | refine zV ?_ | refine zW ?_ | refine zL ?_);simp)|(refine wIn ?_;refine And.intro (by kernel_rfl) ?_;try simp only [zX])|(first | refine zQ ?_ | refine zS ?_)|((first | refine zH ?_ | refine zO ?_ | refine zP ?_);try simp)|((first | refine zR ?_ | refine wOn ?_ | refine wQn ?_);try simp only [zX])|(refine zZ.pure (c1) rfl ?_)|(refine zZ.lent (c1) rfl ?_)|(refine zT.pure (c1) rfl ?_)|(refine zT.lent (c1) rfl ?_)|(refine zZ.own (c1) ?_)|(refine zY.pure (c1) rfl ?_)|(refine zY.lent (c1) rfl ?_)|(refine zY.own (c1) ?_)
    all_goals apply hr
    all_goals simp [Tryd.f33]
  cases h2 : rgt n
  · rw [h1] at c1
    rw [h2] at c2
    simp only [Bool.false_eq_true,and_false,if_false]
    refine zJ Tryd.tab Tryd.mixed Tryd.func33 rfl rfl Tryd.ntmps33 (by simp) (by simp) fun Q hr hn=>?_
    repeat' first|(refine hK _ ?_;clear hK)|(refine hK _ _ ?_;clear hK)|(clear hK;refine hK _ ?_;clear hK)|(clear hK;clear hK;refine hK _ ?_;clear hK)|(clear hK;clear hK;clear hK;refine hK _ ?_;clear hK)|(clear hK;clear hK;clear hK;clear hK;refine hK _ ?_;clear hK)|(refine zI fun K hK=>?_)|((first | refine zG ?_ | refine zN rfl (by kernel_rfl) ?_ | refine zM ?_ | refine zK (by kernel_rfl) ?_);simp only [xI,xH,strip])|((first | refine wIs fun K hK=>?_ | refine wOs fun K hK=>?_ | refine wQs fun K hK=>?_ | refine zU ?_ | refine zV ?_ | refine zW ?_ | refine zL ?_);simp)|(refine wIn ?_;refine And.intro (by kernel_rfl) ?_;try simp only [zX])|(first | refine zQ ?_ | refine zS ?_)|((first | refine zH ?_ | refine zO ?_ | refine zP ?_);try simp)|((first | refine zR ?_ | refine wOn ?_ | refine wQn ?_);try simp only [zX])|(refine zZ.pure (c1) rfl ?_)|(refine zZ.lent (c1) rfl ?_)|(refine zT.pure (c1) rfl ?_)|(refine zT.lent (c1) rfl ?_)|(refine zZ.own (c1) ?_)|(refine zY.pure (c1) rfl ?_)|(refine zY.lent (c1) rfl ?_)|(refine zY.own (c1) ?_)|(refine zZ.pure (c2) rfl ?_)|(refine zZ.lent (c2) rfl ?_)|(refine zT.pure (c2) rfl ?_)|(refine zT.lent (c2) rfl ?_)|(refine zZ.own (c2) ?_)|(refine zY.pure (c2) rfl ?_)|(refine zY.lent (c2) rfl ?_)|(refine zY.own (c2) ?_)
    all_goals apply hr
    all_goals simp [Tryd.f33]
  · rw [h1] at c1
    rw [h2] at c2
    replace c3:=c3 h1
    replace c4:=c4 h2
    replace l3:=l3 h1
    replace l4:=l4 h2
    have s1 : x.length + 1 ≤ 9223372036854775807:=by omega
    have s2 : x.length + 1 + y.length ≤ 9223372036854775807:=by omega
    simp only [and_self,if_true]
    refine zJ Tryd.tab Tryd.mixed Tryd.func33 rfl rfl Tryd.ntmps33 (by simp) (by simp) fun Q hr hn=>?_
    repeat' first|(refine hK _ ?_;clear hK)|(refine hK _ _ ?_;clear hK)|(clear hK;refine hK _ ?_;clear hK)|(clear hK;clear hK;refine hK _ ?_;clear hK)|(clear hK;clear hK;clear hK;refine hK _ ?_;clear hK)|(clear hK;clear hK;clear hK;clear hK;refine hK _ ?_;clear hK)|(refine zI fun K hK=>?_)|((first | refine zG ?_ | refine zN rfl (by kernel_rfl) ?_ | refine zM ?_ | refine zK (by kernel_rfl) ?_);simp only [xI,xH,strip])|((first | refine wIs fun K hK=>?_ | refine wOs fun K hK=>?_ | refine wQs fun K hK=>?_ | refine zU ?_ | refine zV ?_ | refine zW ?_ | refine zL ?_);simp [s1,s2])|(refine wIn ?_;refine And.intro (by kernel_rfl) ?_;try simp only [zX])|(first | refine zQ ?_ | refine zS ?_)|((first | refine zH ?_ | refine zO ?_ | refine zP ?_);try simp)|((first | refine zR ?_ | refine wOn ?_ | refine wQn ?_);try simp only [zX])|(refine zZ.pure (c1) rfl ?_)|(refine zZ.lent (c1) rfl ?_)|(refine zT.pure (c1) rfl ?_)|(refine zT.lent (c1) rfl ?_)|(refine zZ.own (c1) ?_)|(refine zY.pure (c1) rfl ?_)|(refine zY.lent (c1) rfl ?_)|(refine zY.own (c1) ?_)|(refine zZ.pure (c2) rfl ?_)|(refine zZ.lent (c2) rfl ?_)|(refine zT.pure (c2) rfl ?_)|(refine zT.lent (c2) rfl ?_)|(refine zZ.own (c2) ?_)|(refine zY.pure (c2) rfl ?_)|(refine zY.lent (c2) rfl ?_)|(refine zY.own (c2) ?_)|(refine zZ.pure (c3) rfl ?_)|(refine zZ.lent (c3) rfl ?_)|(refine zT.pure (c3) rfl ?_)|(refine zT.lent (c3) rfl ?_)|(refine zZ.own (c3) ?_)|(refine zY.pure (c3) rfl ?_)|(refine zY.lent (c3) rfl ?_)|(refine zY.own (c3) ?_)|(refine zZ.pure (c4) rfl ?_)|(refine zZ.lent (c4) rfl ?_)|(refine zT.pure (c4) rfl ?_)|(refine zT.lent (c4) rfl ?_)|(refine zZ.own (c4) ?_)|(refine zY.pure (c4) rfl ?_)|(refine zY.lent (c4) rfl ?_)|(refine zY.own (c4) ?_)
    all_goals apply hr
    all_goals simp [Tryd.f33]
/- Which configs may be, who votes, who is found: the program's and the document's. -/
def carrier (kind : Int) (m : Mb) : Bool := decide (m.r = 1) && (decide (kind = 1) || decide (0 < m.w))
def yF (kind : Int) (l : List Mb) : Bool := l.any (carrier kind)
def fine (p : Int) : List Mb → Bool
  | []=>true
  | m :: l=>decide (okM m ∧ p < m.i) && fine m.i l
def ranged (c : Cf) : Prop := (1 ≤ c.kind ∧ c.kind ≤ 3) ∧ (0 ≤ c.ep ∧ c.ep ≤ 1099511627776) ∧ (0 ≤ c.n ∧ c.n ≤ 1099511627776)
instance (c : Cf) : Decidable (ranged c) := by unfold ranged; infer_instance
def check (c : Cf) : Int := if ranged c then if fine (-1) c.ms = true then if yF c.kind c.ms = true then 0 else 15 else 1 else 1
theorem carried_con (c : Cf) (hl : c.ms.length ≤ 1000000) : zF Tryd.prog 26 [.p (.agg c.cells)] (.p (B (yF c.kind c.ms))) := by
  obtain ⟨ep,n,kind,l⟩:=c
  simp only [Cf.cells] at hl ⊢
  refine zJ Tryd.tab Tryd.mixed Tryd.func26 rfl rfl Tryd.ntmps26 (by simp) (by simp) fun Q hr hn=>?_
  repeat' first|(refine hK _ ?_;clear hK)|(refine hK _ _ ?_;clear hK)|(clear hK;refine hK _ ?_;clear hK)|(clear hK;clear hK;refine hK _ ?_;clear hK)|(clear hK;clear hK;clear hK;refine hK _ ?_;clear hK)|(clear hK;clear hK;clear hK;clear hK;refine hK _ ?_;clear hK)|(refine zI fun K hK=>?_)|((first | refine zG ?_ | refine zN rfl (by kernel_rfl) ?_ | refine zM ?_ | refine zK (by kernel_rfl) ?_);simp only [xI,xH,strip])|((first | refine wIs fun K hK=>?_ | refine wOs fun K hK=>?_ | refine wQs fun K hK=>?_ | refine zU ?_ | refine zV ?_ | refine zW ?_ | refine zL ?_);simp)|(refine wIn ?_;refine And.intro (by kernel_rfl) ?_;try simp only [zX])|(first | refine zQ ?_ | refine zS ?_)|((first | refine zH ?_ | refine zO ?_ | refine zP ?_);try simp)|((first | refine zR ?_ | refine wOn ?_ | refine wQn ?_);try simp only [zX])
  refine wLoop (fun N st=>∃ k,k + N = l.length ∧ st.s 1 = .ptr 1 0 ∧ st.b 1 = some (.box 26 [.p (I ep),.p (I n),.p (I kind),.p (.sl 4 (mbs l))]) ∧ st.s 6 = .p (.sl 4 (mbs l)) ∧ st.s 7 = .p (I l.length) ∧ st.s 8 = .p (I k) ∧ yF kind (l.drop k) = yF kind l) l.length ⟨0,by simp⟩ fun K N st hL ⟨k,hk,h1,b1,h6,h7,h8,hi⟩=>?_
  by_cases hlt : k < l.length
  · have hw := wrapS k _ hlt (by omega)
    rw [List.drop_eq_getElem_cons hlt] at hi
    simp only [yF,List.any_cons] at hi
    by_cases g1 : l[k].r = 1
    · by_cases g2 : kind = 1
      · repeat' first | (refine hK _ ?_; clear hK) | (refine hK _ _ ?_; clear hK) | (clear hK; refine hK _ ?_; clear hK) | (clear hK; clear hK; refine hK _ ?_; clear hK) | (clear hK; clear hK; clear hK; refine hK _ ?_; clear hK) | (clear hK; clear hK; clear hK; clear hK; refine hK _ ?_; clear hK) | (refine zI fun K hK => ?_) | ((first | refine zG ?_ | refine zN rfl (by kernel_rfl) ?_ | refine zM ?_ | refine zK (by kernel_rfl) ?_); simp only [xI, xH, strip]) | ((first | refine wIs fun K hK => ?_ | refine wOs fun K hK => ?_ | refine wQs fun K hK => ?_ | refine zU ?_ | refine zV ?_ | refine zW ?_ | refine zL ?_); simp [h1, b1, h6, h7, h8, hlt, hw, g1, g2]) | (refine wIn ?_; refine And.intro (by kernel_rfl) ?_; try simp only [zX]) | (first | refine zQ ?_ | refine zS ?_) | ((first | refine zH ?_ | refine zO ?_ | refine zP ?_); try simp) | ((first | refine zR ?_ | refine wOn ?_ | refine wQn ?_); try simp only [zX])
        all_goals apply hr
        all_goals simp [Tryd.f26]
        all_goals simp [carrier,g1,g2] at hi
        all_goals simp [yF,carrier,g2]
        all_goals exact hi
      · by_cases g3 : 0 < l[k].w
        · repeat' first | (refine hK _ ?_; clear hK) | (refine hK _ _ ?_; clear hK) | (clear hK; refine hK _ ?_; clear hK) | (clear hK; clear hK; refine hK _ ?_; clear hK) | (clear hK; clear hK; clear hK; refine hK _ ?_; clear hK) | (clear hK; clear hK; clear hK; clear hK; refine hK _ ?_; clear hK) | (refine zI fun K hK => ?_) | ((first | refine zG ?_ | refine zN rfl (by kernel_rfl) ?_ | refine zM ?_ | refine zK (by kernel_rfl) ?_); simp only [xI, xH, strip]) | ((first | refine wIs fun K hK => ?_ | refine wOs fun K hK => ?_ | refine wQs fun K hK => ?_ | refine zU ?_ | refine zV ?_ | refine zW ?_ | refine zL ?_); simp [h1, b1, h6, h7, h8, hlt, hw, g1, g2, g3]) | (refine wIn ?_; refine And.intro (by kernel_rfl) ?_; try simp only [zX]) | (first | refine zQ ?_ | refine zS ?_) | ((first | refine zH ?_ | refine zO ?_ | refine zP ?_); try simp) | ((first | refine zR ?_ | refine wOn ?_ | refine wQn ?_); try simp only [zX])
          all_goals apply hr
          all_goals simp [Tryd.f26]
          all_goals simp [carrier,g1,g2,g3] at hi
          all_goals simp [yF,carrier,g2]
          all_goals exact hi
        · repeat' first | (refine hK _ ?_; clear hK) | (refine hK _ _ ?_; clear hK) | (clear hK; refine hK _ ?_; clear hK) | (clear hK; clear hK; refine hK _ ?_; clear hK) | (clear hK; clear hK; clear hK; refine hK _ ?_; clear hK) | (clear hK; clear hK; clear hK; clear hK; refine hK _ ?_; clear hK) | (refine zI fun K hK => ?_) | ((first | refine zG ?_ | refine zN rfl (by kernel_rfl) ?_ | refine zM ?_ | refine zK (by kernel_rfl) ?_); simp only [xI, xH, strip]) | ((first | refine wIs fun K hK => ?_ | refine wOs fun K hK => ?_ | refine wQs fun K hK => ?_ | refine zU ?_ | refine zV ?_ | refine zW ?_ | refine zL ?_); simp [h1, b1, h6, h7, h8, hlt, hw, g1, g2, g3]) | (refine wIn ?_; refine And.intro (by kernel_rfl) ?_; try simp only [zX]) | (first | refine zQ ?_ | refine zS ?_) | ((first | refine zH ?_ | refine zO ?_ | refine zP ?_); try simp) | ((first | refine zR ?_ | refine wOn ?_ | refine wQn ?_); try simp only [zX])
          refine hL _ (N - 1) (by omega) ⟨k + 1,by omega,?_⟩
          simp [h1,b1,h6,h7,hw]
          simp [yF,← hi,carrier,g1,g2,g3]
    · repeat' first | (refine hK _ ?_; clear hK) | (refine hK _ _ ?_; clear hK) | (clear hK; refine hK _ ?_; clear hK) | (clear hK; clear hK; refine hK _ ?_; clear hK) | (clear hK; clear hK; clear hK; refine hK _ ?_; clear hK) | (clear hK; clear hK; clear hK; clear hK; refine hK _ ?_; clear hK) | (refine zI fun K hK => ?_) | ((first | refine zG ?_ | refine zN rfl (by kernel_rfl) ?_ | refine zM ?_ | refine zK (by kernel_rfl) ?_); simp only [xI, xH, strip]) | ((first | refine wIs fun K hK => ?_ | refine wOs fun K hK => ?_ | refine wQs fun K hK => ?_ | refine zU ?_ | refine zV ?_ | refine zW ?_ | refine zL ?_); simp [h1, b1, h6, h7, h8, hlt, hw, g1]) | (refine wIn ?_; refine And.intro (by kernel_rfl) ?_; try simp only [zX]) | (first | refine zQ ?_ | refine zS ?_) | ((first | refine zH ?_ | refine zO ?_ | refine zP ?_); try simp) | ((first | refine zR ?_ | refine wOn ?_ | refine wQn ?_); try simp only [zX])
      refine hL _ (N - 1) (by omega) ⟨k + 1,by omega,?_⟩
      simp [h1,b1,h6,h7,hw]
      simp [yF,← hi,carrier,g1]
  · rw [List.drop_of_length_le (by omega)] at hi
    repeat' first|(refine hK _ ?_;clear hK)|(refine hK _ _ ?_;clear hK)|(clear hK;refine hK _ ?_;clear hK)|(clear hK;clear hK;refine hK _ ?_;clear hK)|(clear hK;clear hK;clear hK;refine hK _ ?_;clear hK)|(clear hK;clear hK;clear hK;clear hK;refine hK _ ?_;clear hK)|(refine zI fun K hK=>?_)|((first | refine zG ?_ | refine zN rfl (by kernel_rfl) ?_ | refine zM ?_ | refine zK (by kernel_rfl) ?_);simp only [xI,xH,strip])|((first | refine wIs fun K hK=>?_ | refine wOs fun K hK=>?_ | refine wQs fun K hK=>?_ | refine zU ?_ | refine zV ?_ | refine zW ?_ | refine zL ?_);simp [h1,b1,h6,h7,h8,hlt])|(refine wIn ?_;refine And.intro (by kernel_rfl) ?_;try simp only [zX])|(first | refine zQ ?_ | refine zS ?_)|((first | refine zH ?_ | refine zO ?_ | refine zP ?_);try simp)|((first | refine zR ?_ | refine wOn ?_ | refine wQn ?_);try simp only [zX])
    apply hr
    rw [← hi]
    simp [Tryd.f26]
    rfl
def prevI (l : List Mb) (k : Nat) : Int := if h : 0 < k ∧ k ≤ l.length then (l[k - 1]'(by omega)).i else -1
theorem prevI_succ (l : List Mb) (k : Nat) (h : k < l.length) : prevI l (k + 1) = l[k].i := by
  unfold prevI;rw [dif_pos ⟨by omega,by omega⟩];rfl
theorem prevI_pos (l : List Mb) (k : Nat) (h0 : 0 < k) (h : k < l.length) : prevI l k = (l[k - 1]'(by omega)).i := by
  unfold prevI;rw [dif_pos ⟨by omega,by omega⟩]
theorem prevI_zero (l : List Mb) : prevI l 0 = -1 := by unfold prevI; rw [dif_neg (by omega)]
set_option maxHeartbeats 8000000 in
theorem check_con (c : Cf) (hl : c.ms.length ≤ 1000000) : zF Tryd.prog 11 [.p (.agg c.cells)] (.p (I (check c))) := by
  have cc:=carried_con c hl
  obtain ⟨ep,n,kind,l⟩:=c
  simp only [Cf.cells,check,ranged] at hl cc ⊢
  have c1:=within_con ep 1099511627776
  have c2:=within_con n 1099511627776
  by_cases g1 : kind < 1
  · have g1' : ¬ 1 ≤ kind := by omega
    refine zJ Tryd.tab Tryd.mixed Tryd.func11 rfl rfl Tryd.ntmps11 (by simp) (by simp) fun Q hr hn=>?_
    repeat' first|(refine hK _ ?_;clear hK)|(refine hK _ _ ?_;clear hK)|(clear hK;refine hK _ ?_;clear hK)|(clear hK;clear hK;refine hK _ ?_;clear hK)|(clear hK;clear hK;clear hK;refine hK _ ?_;clear hK)|(clear hK;clear hK;clear hK;clear hK;refine hK _ ?_;clear hK)|(refine zI fun K hK=>?_)|((first | refine zG ?_ | refine zN rfl (by kernel_rfl) ?_ | refine zM ?_ | refine zK (by kernel_rfl) ?_);simp only [xI,xH,strip])|((first | refine wIs fun K hK=>?_ | refine wOs fun K hK=>?_ | refine wQs fun K hK=>?_ | refine zU ?_ | refine zV ?_ | refine zW ?_ | refine zL ?_);simp [g1])|(refine wIn ?_;refine And.intro (by kernel_rfl) ?_;try simp only [zX])|(first | refine zQ ?_ | refine zS ?_)|((first | refine zH ?_ | refine zO ?_ | refine zP ?_);try simp)|((first | refine zR ?_ | refine wOn ?_ | refine wQn ?_);try simp only [zX])
    all_goals apply hr
    all_goals simp [Tryd.f11,g1']
  by_cases g2 : 3 < kind
  · have g2' : ¬ kind ≤ 3 := by omega
    refine zJ Tryd.tab Tryd.mixed Tryd.func11 rfl rfl Tryd.ntmps11 (by simp) (by simp) fun Q hr hn=>?_
    repeat' first|(refine hK _ ?_;clear hK)|(refine hK _ _ ?_;clear hK)|(clear hK;refine hK _ ?_;clear hK)|(clear hK;clear hK;refine hK _ ?_;clear hK)|(clear hK;clear hK;clear hK;refine hK _ ?_;clear hK)|(clear hK;clear hK;clear hK;clear hK;refine hK _ ?_;clear hK)|(refine zI fun K hK=>?_)|((first | refine zG ?_ | refine zN rfl (by kernel_rfl) ?_ | refine zM ?_ | refine zK (by kernel_rfl) ?_);simp only [xI,xH,strip])|((first | refine wIs fun K hK=>?_ | refine wOs fun K hK=>?_ | refine wQs fun K hK=>?_ | refine zU ?_ | refine zV ?_ | refine zW ?_ | refine zL ?_);simp [g1,g2])|(refine wIn ?_;refine And.intro (by kernel_rfl) ?_;try simp only [zX])|(first | refine zQ ?_ | refine zS ?_)|((first | refine zH ?_ | refine zO ?_ | refine zP ?_);try simp)|((first | refine zR ?_ | refine wOn ?_ | refine wQn ?_);try simp only [zX])
    all_goals apply hr
    all_goals simp [Tryd.f11,g2']
  by_cases g3 : 0 ≤ ep ∧ ep ≤ 1099511627776
  rotate_left
  · rw [decide_eq_false g3] at c1
    refine zJ Tryd.tab Tryd.mixed Tryd.func11 rfl rfl Tryd.ntmps11 (by simp) (by simp) fun Q hr hn=>?_
    repeat' first|(refine hK _ ?_;clear hK)|(refine hK _ _ ?_;clear hK)|(clear hK;refine hK _ ?_;clear hK)|(clear hK;clear hK;refine hK _ ?_;clear hK)|(clear hK;clear hK;clear hK;refine hK _ ?_;clear hK)|(clear hK;clear hK;clear hK;clear hK;refine hK _ ?_;clear hK)|(refine zI fun K hK=>?_)|((first | refine zG ?_ | refine zN rfl (by kernel_rfl) ?_ | refine zM ?_ | refine zK (by kernel_rfl) ?_);simp only [xI,xH,strip])|((first | refine wIs fun K hK=>?_ | refine wOs fun K hK=>?_ | refine wQs fun K hK=>?_ | refine zU ?_ | refine zV ?_ | refine zW ?_ | refine zL ?_);simp [g1,g2])|(refine wIn ?_;refine And.intro (by kernel_rfl) ?_;try simp only [zX])|(first | refine zQ ?_ | refine zS ?_)|((first | refine zH ?_ | refine zO ?_ | refine zP ?_);try simp)|((first | refine zR ?_ | refine wOn ?_ | refine wQn ?_);try simp only [zX])|(refine zZ.pure (c1) rfl ?_)|(refine zZ.lent (c1) rfl ?_)|(refine zT.pure (c1) rfl ?_)|(refine zT.lent (c1) rfl ?_)|(refine zZ.own (c1) ?_)|(refine zY.pure (c1) rfl ?_)|(refine zY.lent (c1) rfl ?_)|(refine zY.own (c1) ?_)
    all_goals apply hr
    all_goals simp [Tryd.f11,g3]
  rw [decide_eq_true g3] at c1
  by_cases g4 : 0 ≤ n ∧ n ≤ 1099511627776
  rotate_left
  · rw [decide_eq_false g4] at c2
    refine zJ Tryd.tab Tryd.mixed Tryd.func11 rfl rfl Tryd.ntmps11 (by simp) (by simp) fun Q hr hn=>?_
    repeat' first|(refine hK _ ?_;clear hK)|(refine hK _ _ ?_;clear hK)|(clear hK;refine hK _ ?_;clear hK)|(clear hK;clear hK;refine hK _ ?_;clear hK)|(clear hK;clear hK;clear hK;refine hK _ ?_;clear hK)|(clear hK;clear hK;clear hK;clear hK;refine hK _ ?_;clear hK)|(refine zI fun K hK=>?_)|((first | refine zG ?_ | refine zN rfl (by kernel_rfl) ?_ | refine zM ?_ | refine zK (by kernel_rfl) ?_);simp only [xI,xH,strip])|((first | refine wIs fun K hK=>?_ | refine wOs fun K hK=>?_ | refine wQs fun K hK=>?_ | refine zU ?_ | refine zV ?_ | refine zW ?_ | refine zL ?_);simp [g1,g2])|(refine wIn ?_;refine And.intro (by kernel_rfl) ?_;try simp only [zX])|(first | refine zQ ?_ | refine zS ?_)|((first | refine zH ?_ | refine zO ?_ | refine zP ?_);try simp)|((first | refine zR ?_ | refine wOn ?_ | refine wQn ?_);try simp only [zX])|(refine zZ.pure (c1) rfl ?_)|(refine zZ.lent (c1) rfl ?_)|(refine zT.pure (c1) rfl ?_)|(refine zT.lent (c1) rfl ?_)|(refine zZ.own (c1) ?_)|(refine zY.pure (c1) rfl ?_)|(refine zY.lent (c1) rfl ?_)|(refine zY.own (c1) ?_)|(refine zZ.pure (c2) rfl ?_)|(refine zZ.lent (c2) rfl ?_)|(refine zT.pure (c2) rfl ?_)|(refine zT.lent (c2) rfl ?_)|(refine zZ.own (c2) ?_)|(refine zY.pure (c2) rfl ?_)|(refine zY.lent (c2) rfl ?_)|(refine zY.own (c2) ?_)
    all_goals apply hr
    all_goals simp [Tryd.f11,g4]
  rw [decide_eq_true g4] at c2
  rw [if_pos ⟨⟨by omega,by omega⟩,g3,g4⟩]
  refine zJ Tryd.tab Tryd.mixed Tryd.func11 rfl rfl Tryd.ntmps11 (by simp) (by simp) fun Q hr hn=>?_
  repeat' first|(refine hK _ ?_;clear hK)|(refine hK _ _ ?_;clear hK)|(clear hK;refine hK _ ?_;clear hK)|(clear hK;clear hK;refine hK _ ?_;clear hK)|(clear hK;clear hK;clear hK;refine hK _ ?_;clear hK)|(clear hK;clear hK;clear hK;clear hK;refine hK _ ?_;clear hK)|(refine zI fun K hK=>?_)|((first | refine zG ?_ | refine zN rfl (by kernel_rfl) ?_ | refine zM ?_ | refine zK (by kernel_rfl) ?_);simp only [xI,xH,strip])|((first | refine wIs fun K hK=>?_ | refine wOs fun K hK=>?_ | refine wQs fun K hK=>?_ | refine zU ?_ | refine zV ?_ | refine zW ?_ | refine zL ?_);simp [g1,g2])|(refine wIn ?_;refine And.intro (by kernel_rfl) ?_;try simp only [zX])|(first | refine zQ ?_ | refine zS ?_)|((first | refine zH ?_ | refine zO ?_ | refine zP ?_);try simp)|((first | refine zR ?_ | refine wOn ?_ | refine wQn ?_);try simp only [zX])|(refine zZ.pure (c1) rfl ?_)|(refine zZ.lent (c1) rfl ?_)|(refine zT.pure (c1) rfl ?_)|(refine zT.lent (c1) rfl ?_)|(refine zZ.own (c1) ?_)|(refine zY.pure (c1) rfl ?_)|(refine zY.lent (c1) rfl ?_)|(refine zY.own (c1) ?_)|(refine zZ.pure (c2) rfl ?_)|(refine zZ.lent (c2) rfl ?_)|(refine zT.pure (c2) rfl ?_)|(refine zT.lent (c2) rfl ?_)|(refine zZ.own (c2) ?_)|(refine zY.pure (c2) rfl ?_)|(refine zY.lent (c2) rfl ?_)|(refine zY.own (c2) ?_)
  refine wLoop (fun N st=>∃ k,k + N = l.length ∧ st.s 1 = .ptr 1 0 ∧ st.b 1 = some (.box 26 [.p (I ep),.p (I n),.p (I kind),.p (.sl 4 (mbs l))]) ∧ st.s 28 = .p (.sl 4 (mbs l)) ∧ st.s 29 = .p (I l.length) ∧ st.s 30 = .p (I k) ∧ fine (prevI l k) (l.drop k) = fine (-1) l) l.length ⟨0,by simp [prevI_zero]⟩ fun K N st hL ⟨k,hk,h1,b1,h28,h29,h30,hi⟩=>?_
  by_cases hlt : k < l.length
  · have hw := wrapS k _ hlt (by omega)
    rw [List.drop_eq_getElem_cons hlt,fine] at hi
    have cr:=rightM_con l[k]
    simp only [Mb.cells] at cr
    by_cases o1 : okM l[k]
    · rw [decide_eq_true o1] at cr
      by_cases o2 : 0 < k
      · have o2' : (0 : Int) < k := by omega
        have hw1 : IntKind.i64.wrap ((k : Int) - 1) = ((k - 1 : Nat) : Int):=by rw [yT] <;> omega
        have hk1 : k - 1 < l.length:=by omega
        rw [prevI_pos l k o2 hlt] at hi
        by_cases o3 : l[k].i ≤ l[k - 1].i
        · repeat' first | (refine hK _ ?_; clear hK) | (refine hK _ _ ?_; clear hK) | (clear hK; refine hK _ ?_; clear hK) | (clear hK; clear hK; refine hK _ ?_; clear hK) | (clear hK; clear hK; clear hK; refine hK _ ?_; clear hK) | (clear hK; clear hK; clear hK; clear hK; refine hK _ ?_; clear hK) | (refine zI fun K hK => ?_) | ((first | refine zG ?_ | refine zN rfl (by kernel_rfl) ?_ | refine zM ?_ | refine zK (by kernel_rfl) ?_); simp only [xI, xH, strip]) | ((first | refine wIs fun K hK => ?_ | refine wOs fun K hK => ?_ | refine wQs fun K hK => ?_ | refine zU ?_ | refine zV ?_ | refine zW ?_ | refine zL ?_); simp [h1, b1, h28, h29, h30, hlt, hw, o2, o2', hw1, hk1, o3]) | (refine wIn ?_; refine And.intro (by kernel_rfl) ?_; try simp only [zX]) | (first | refine zQ ?_ | refine zS ?_) | ((first | refine zH ?_ | refine zO ?_ | refine zP ?_); try simp) | ((first | refine zR ?_ | refine wOn ?_ | refine wQn ?_); try simp only [zX]) | (refine zZ.pure (cr) rfl ?_) | (refine zZ.lent (cr) rfl ?_) | (refine zT.pure (cr) rfl ?_) | (refine zT.lent (cr) rfl ?_) | (refine zZ.own (cr) ?_) | (refine zY.pure (cr) rfl ?_) | (refine zY.lent (cr) rfl ?_) | (refine zY.own (cr) ?_)
          all_goals apply hr
          all_goals simp [Tryd.f11]
          all_goals rw [decide_eq_false (by omega)] at hi
          all_goals simp [← hi]
        · repeat' first | (refine hK _ ?_; clear hK) | (refine hK _ _ ?_; clear hK) | (clear hK; refine hK _ ?_; clear hK) | (clear hK; clear hK; refine hK _ ?_; clear hK) | (clear hK; clear hK; clear hK; refine hK _ ?_; clear hK) | (clear hK; clear hK; clear hK; clear hK; refine hK _ ?_; clear hK) | (refine zI fun K hK => ?_) | ((first | refine zG ?_ | refine zN rfl (by kernel_rfl) ?_ | refine zM ?_ | refine zK (by kernel_rfl) ?_); simp only [xI, xH, strip]) | ((first | refine wIs fun K hK => ?_ | refine wOs fun K hK => ?_ | refine wQs fun K hK => ?_ | refine zU ?_ | refine zV ?_ | refine zW ?_ | refine zL ?_); simp [h1, b1, h28, h29, h30, hlt, hw, o2, o2', hw1, hk1, o3]) | (refine wIn ?_; refine And.intro (by kernel_rfl) ?_; try simp only [zX]) | (first | refine zQ ?_ | refine zS ?_) | ((first | refine zH ?_ | refine zO ?_ | refine zP ?_); try simp) | ((first | refine zR ?_ | refine wOn ?_ | refine wQn ?_); try simp only [zX]) | (refine zZ.pure (cr) rfl ?_) | (refine zZ.lent (cr) rfl ?_) | (refine zT.pure (cr) rfl ?_) | (refine zT.lent (cr) rfl ?_) | (refine zZ.own (cr) ?_) | (refine zY.pure (cr) rfl ?_) | (refine zY.lent (cr) rfl ?_) | (refine zY.own (cr) ?_)
          refine hL _ (N - 1) (by omega) ⟨k + 1,by omega,?_⟩
          simp [h1,b1,h28,h29,hw]
          rw [decide_eq_true ⟨o1,by omega⟩,Bool.true_and] at hi
          rw [prevI_succ l k hlt];exact hi
      · obtain rfl : k = 0 := by omega
        simp at h30 hw
        repeat' first|(refine hK _ ?_;clear hK)|(refine hK _ _ ?_;clear hK)|(clear hK;refine hK _ ?_;clear hK)|(clear hK;clear hK;refine hK _ ?_;clear hK)|(clear hK;clear hK;clear hK;refine hK _ ?_;clear hK)|(clear hK;clear hK;clear hK;clear hK;refine hK _ ?_;clear hK)|(refine zI fun K hK=>?_)|((first | refine zG ?_ | refine zN rfl (by kernel_rfl) ?_ | refine zM ?_ | refine zK (by kernel_rfl) ?_);simp only [xI,xH,strip])|((first | refine wIs fun K hK=>?_ | refine wOs fun K hK=>?_ | refine wQs fun K hK=>?_ | refine zU ?_ | refine zV ?_ | refine zW ?_ | refine zL ?_);simp [h1,b1,h28,h29,h30,hlt,hw])|(refine wIn ?_;refine And.intro (by kernel_rfl) ?_;try simp only [zX])|(first | refine zQ ?_ | refine zS ?_)|((first | refine zH ?_ | refine zO ?_ | refine zP ?_);try simp)|((first | refine zR ?_ | refine wOn ?_ | refine wQn ?_);try simp only [zX])|(refine zZ.pure (cr) rfl ?_)|(refine zZ.lent (cr) rfl ?_)|(refine zT.pure (cr) rfl ?_)|(refine zT.lent (cr) rfl ?_)|(refine zZ.own (cr) ?_)|(refine zY.pure (cr) rfl ?_)|(refine zY.lent (cr) rfl ?_)|(refine zY.own (cr) ?_)
        refine hL _ (N - 1) (by omega) ⟨1,by omega,?_⟩
        simp [h1,b1,h28,h29,hw]
        have:=o1.1.1
        rw [prevI_zero,decide_eq_true ⟨o1,by omega⟩,Bool.true_and] at hi
        rw [show (1 : Nat) = 0 + 1 from rfl,prevI_succ l 0 hlt,← List.drop_one];exact hi
    · rw [decide_eq_false o1] at cr
      repeat' first|(refine hK _ ?_;clear hK)|(refine hK _ _ ?_;clear hK)|(clear hK;refine hK _ ?_;clear hK)|(clear hK;clear hK;refine hK _ ?_;clear hK)|(clear hK;clear hK;clear hK;refine hK _ ?_;clear hK)|(clear hK;clear hK;clear hK;clear hK;refine hK _ ?_;clear hK)|(refine zI fun K hK=>?_)|((first | refine zG ?_ | refine zN rfl (by kernel_rfl) ?_ | refine zM ?_ | refine zK (by kernel_rfl) ?_);simp only [xI,xH,strip])|((first | refine wIs fun K hK=>?_ | refine wOs fun K hK=>?_ | refine wQs fun K hK=>?_ | refine zU ?_ | refine zV ?_ | refine zW ?_ | refine zL ?_);simp [h1,b1,h28,h29,h30,hlt,hw])|(refine wIn ?_;refine And.intro (by kernel_rfl) ?_;try simp only [zX])|(first | refine zQ ?_ | refine zS ?_)|((first | refine zH ?_ | refine zO ?_ | refine zP ?_);try simp)|((first | refine zR ?_ | refine wOn ?_ | refine wQn ?_);try simp only [zX])|(refine zZ.pure (cr) rfl ?_)|(refine zZ.lent (cr) rfl ?_)|(refine zT.pure (cr) rfl ?_)|(refine zT.lent (cr) rfl ?_)|(refine zZ.own (cr) ?_)|(refine zY.pure (cr) rfl ?_)|(refine zY.lent (cr) rfl ?_)|(refine zY.own (cr) ?_)
      all_goals apply hr
      all_goals simp [Tryd.f11]
      all_goals simp [← hi,o1]
  · rw [List.drop_of_length_le (by omega)] at hi
    have hi' : fine (-1) l = true:=hi ▸ rfl
    by_cases g5 : yF kind l = true
    · rw [g5] at cc
      repeat' first|(refine hK _ ?_;clear hK)|(refine hK _ _ ?_;clear hK)|(clear hK;refine hK _ ?_;clear hK)|(clear hK;clear hK;refine hK _ ?_;clear hK)|(clear hK;clear hK;clear hK;refine hK _ ?_;clear hK)|(clear hK;clear hK;clear hK;clear hK;refine hK _ ?_;clear hK)|(refine zI fun K hK=>?_)|((first | refine zG ?_ | refine zN rfl (by kernel_rfl) ?_ | refine zM ?_ | refine zK (by kernel_rfl) ?_);simp only [xI,xH,strip])|((first | refine wIs fun K hK=>?_ | refine wOs fun K hK=>?_ | refine wQs fun K hK=>?_ | refine zU ?_ | refine zV ?_ | refine zW ?_ | refine zL ?_);simp [h1,b1,h28,h29,h30,hlt])|(refine wIn ?_;refine And.intro (by kernel_rfl) ?_;try simp only [zX])|(first | refine zQ ?_ | refine zS ?_)|((first | refine zH ?_ | refine zO ?_ | refine zP ?_);try simp)|((first | refine zR ?_ | refine wOn ?_ | refine wQn ?_);try simp only [zX])|(refine zZ.pure (cc) rfl ?_)|(refine zZ.lent (cc) rfl ?_)|(refine zT.pure (cc) rfl ?_)|(refine zT.lent (cc) rfl ?_)|(refine zZ.own (cc) ?_)|(refine zY.pure (cc) rfl ?_)|(refine zY.lent (cc) rfl ?_)|(refine zY.own (cc) ?_)
      all_goals apply hr
      all_goals simp [Tryd.f11,hi',g5]
    · rw [Bool.not_eq_true] at g5
      rw [g5] at cc
      repeat' first|(refine hK _ ?_;clear hK)|(refine hK _ _ ?_;clear hK)|(clear hK;refine hK _ ?_;clear hK)|(clear hK;clear hK;refine hK _ ?_;clear hK)|(clear hK;clear hK;clear hK;refine hK _ ?_;clear hK)|(clear hK;clear hK;clear hK;clear hK;refine hK _ ?_;clear hK)|(refine zI fun K hK=>?_)|((first | refine zG ?_ | refine zN rfl (by kernel_rfl) ?_ | refine zM ?_ | refine zK (by kernel_rfl) ?_);simp only [xI,xH,strip])|((first | refine wIs fun K hK=>?_ | refine wOs fun K hK=>?_ | refine wQs fun K hK=>?_ | refine zU ?_ | refine zV ?_ | refine zW ?_ | refine zL ?_);simp [h1,b1,h28,h29,h30,hlt])|(refine wIn ?_;refine And.intro (by kernel_rfl) ?_;try simp only [zX])|(first | refine zQ ?_ | refine zS ?_)|((first | refine zH ?_ | refine zO ?_ | refine zP ?_);try simp)|((first | refine zR ?_ | refine wOn ?_ | refine wQn ?_);try simp only [zX])|(refine zZ.pure (cc) rfl ?_)|(refine zZ.lent (cc) rfl ?_)|(refine zT.pure (cc) rfl ?_)|(refine zT.lent (cc) rfl ?_)|(refine zZ.own (cc) ?_)|(refine zY.pure (cc) rfl ?_)|(refine zY.lent (cc) rfl ?_)|(refine zY.own (cc) ?_)
      all_goals apply hr
      all_goals simp [Tryd.f11,hi',g5]
/- The document's Check, and who votes, who is found. -/
def wsum : List Mb → Int
  | []=>0
  | m :: l=>(if m.r = 1 then m.w else 0) + wsum l
def cnt : List Mb → Int
  | []=>0
  | m :: l=>(if m.r = 1 then 1 else 0) + cnt l
theorem sums (kind : Int) (l : List Mb) : ∀ p, fine p l = true → 0 ≤ wsum l ∧ 0 ≤ cnt l ∧ (cnt l = 0 → wsum l = 0) ∧ (kind = 1 → yF kind l = decide (0 < cnt l)) ∧ (kind ≠ 1 → yF kind l = decide (0 < wsum l)) := by
  induction l with
  | nil=>intro p h;simp [wsum,cnt,yF]
  | cons m l ih =>
    intro p h
    simp only [fine,Bool.and_eq_true,decide_eq_true_eq] at h
    obtain ⟨⟨ho,hp⟩,hf⟩:=h
    obtain ⟨e1,e2,e3,e4,e5⟩:=ih _ hf
    have hw:=ho.2.2.1
    simp only [wsum,cnt,yF,List.any_cons,carrier] at *
    by_cases hr : m.r = 1
    · simp only [hr, if_true, decide_true, Bool.true_and]
      refine ⟨by omega,by omega,by omega,fun hk=>?_,fun hk=>?_⟩
      · simp [hk];omega
      · rw [e5 hk]
        by_cases g : 0 < m.w
        · simp [hk,g];omega
        · simp [hk,g,show m.w = 0 by omega]
    · simp only [hr, if_false, decide_false, Bool.false_and, Bool.false_or, Int.zero_add]
      exact ⟨e1,e2,e3,e4,e5⟩
set_option maxHeartbeats 8000000 in
theorem check04_con (c : Cf) (hl : c.ms.length ≤ 1000000) : zF Tryd.prog 12 [.p (.agg c.cells)] (.p (I (check c))) := by
  obtain ⟨ep,n,kind,l⟩:=c
  simp only [Cf.cells,check,ranged] at hl ⊢
  by_cases g1 : kind < 1
  · have g1' : ¬ 1 ≤ kind := by omega
    refine zJ Tryd.tab Tryd.mixed Tryd.func12 rfl rfl Tryd.ntmps12 (by simp) (by simp) fun Q hr hn=>?_
    repeat' first|(refine hK _ ?_;clear hK)|(refine hK _ _ ?_;clear hK)|(clear hK;refine hK _ ?_;clear hK)|(clear hK;clear hK;refine hK _ ?_;clear hK)|(clear hK;clear hK;clear hK;refine hK _ ?_;clear hK)|(clear hK;clear hK;clear hK;clear hK;refine hK _ ?_;clear hK)|(refine zI fun K hK=>?_)|((first | refine zG ?_ | refine zN rfl (by kernel_rfl) ?_ | refine zM ?_ | refine zK (by kernel_rfl) ?_);simp only [xI,xH,strip])|((first | refine wIs fun K hK=>?_ | refine wOs fun K hK=>?_ | refine wQs fun K hK=>?_ | refine zU ?_ | refine zV ?_ | refine zW ?_ | refine zL ?_);simp [g1])|(refine wIn ?_;refine And.intro (by kernel_rfl) ?_;try simp only [zX])|(first | refine zQ ?_ | refine zS ?_)|((first | refine zH ?_ | refine zO ?_ | refine zP ?_);try simp)|((first | refine zR ?_ | refine wOn ?_ | refine wQn ?_);try simp only [zX])
    all_goals apply hr
    all_goals simp [Tryd.f12,g1']
  by_cases g2 : 3 < kind
  · have g2' : ¬ kind ≤ 3 := by omega
    refine zJ Tryd.tab Tryd.mixed Tryd.func12 rfl rfl Tryd.ntmps12 (by simp) (by simp) fun Q hr hn=>?_
    repeat' first|(refine hK _ ?_;clear hK)|(refine hK _ _ ?_;clear hK)|(clear hK;refine hK _ ?_;clear hK)|(clear hK;clear hK;refine hK _ ?_;clear hK)|(clear hK;clear hK;clear hK;refine hK _ ?_;clear hK)|(clear hK;clear hK;clear hK;clear hK;refine hK _ ?_;clear hK)|(refine zI fun K hK=>?_)|((first | refine zG ?_ | refine zN rfl (by kernel_rfl) ?_ | refine zM ?_ | refine zK (by kernel_rfl) ?_);simp only [xI,xH,strip])|((first | refine wIs fun K hK=>?_ | refine wOs fun K hK=>?_ | refine wQs fun K hK=>?_ | refine zU ?_ | refine zV ?_ | refine zW ?_ | refine zL ?_);simp [g1,g2])|(refine wIn ?_;refine And.intro (by kernel_rfl) ?_;try simp only [zX])|(first | refine zQ ?_ | refine zS ?_)|((first | refine zH ?_ | refine zO ?_ | refine zP ?_);try simp)|((first | refine zR ?_ | refine wOn ?_ | refine wQn ?_);try simp only [zX])
    all_goals apply hr
    all_goals simp [Tryd.f12,g2']
  by_cases g3 : ep < 0
  · have g3' : ¬ 0 ≤ ep := by omega
    refine zJ Tryd.tab Tryd.mixed Tryd.func12 rfl rfl Tryd.ntmps12 (by simp) (by simp) fun Q hr hn=>?_
    repeat' first|(refine hK _ ?_;clear hK)|(refine hK _ _ ?_;clear hK)|(clear hK;refine hK _ ?_;clear hK)|(clear hK;clear hK;refine hK _ ?_;clear hK)|(clear hK;clear hK;clear hK;refine hK _ ?_;clear hK)|(clear hK;clear hK;clear hK;clear hK;refine hK _ ?_;clear hK)|(refine zI fun K hK=>?_)|((first | refine zG ?_ | refine zN rfl (by kernel_rfl) ?_ | refine zM ?_ | refine zK (by kernel_rfl) ?_);simp only [xI,xH,strip])|((first | refine wIs fun K hK=>?_ | refine wOs fun K hK=>?_ | refine wQs fun K hK=>?_ | refine zU ?_ | refine zV ?_ | refine zW ?_ | refine zL ?_);simp [g1,g2,g3])|(refine wIn ?_;refine And.intro (by kernel_rfl) ?_;try simp only [zX])|(first | refine zQ ?_ | refine zS ?_)|((first | refine zH ?_ | refine zO ?_ | refine zP ?_);try simp)|((first | refine zR ?_ | refine wOn ?_ | refine wQn ?_);try simp only [zX])
    all_goals apply hr
    all_goals simp [Tryd.f12,g3']
  by_cases g4 : 1099511627776 < ep
  · have g4' : ¬ ep ≤ 1099511627776 := by omega
    refine zJ Tryd.tab Tryd.mixed Tryd.func12 rfl rfl Tryd.ntmps12 (by simp) (by simp) fun Q hr hn=>?_
    repeat' first|(refine hK _ ?_;clear hK)|(refine hK _ _ ?_;clear hK)|(clear hK;refine hK _ ?_;clear hK)|(clear hK;clear hK;refine hK _ ?_;clear hK)|(clear hK;clear hK;clear hK;refine hK _ ?_;clear hK)|(clear hK;clear hK;clear hK;clear hK;refine hK _ ?_;clear hK)|(refine zI fun K hK=>?_)|((first | refine zG ?_ | refine zN rfl (by kernel_rfl) ?_ | refine zM ?_ | refine zK (by kernel_rfl) ?_);simp only [xI,xH,strip])|((first | refine wIs fun K hK=>?_ | refine wOs fun K hK=>?_ | refine wQs fun K hK=>?_ | refine zU ?_ | refine zV ?_ | refine zW ?_ | refine zL ?_);simp [g1,g2,g3,g4])|(refine wIn ?_;refine And.intro (by kernel_rfl) ?_;try simp only [zX])|(first | refine zQ ?_ | refine zS ?_)|((first | refine zH ?_ | refine zO ?_ | refine zP ?_);try simp)|((first | refine zR ?_ | refine wOn ?_ | refine wQn ?_);try simp only [zX])
    all_goals apply hr
    all_goals simp [Tryd.f12,g4']
  by_cases g5 : n < 0
  · have g5' : ¬ 0 ≤ n := by omega
    refine zJ Tryd.tab Tryd.mixed Tryd.func12 rfl rfl Tryd.ntmps12 (by simp) (by simp) fun Q hr hn=>?_
    repeat' first|(refine hK _ ?_;clear hK)|(refine hK _ _ ?_;clear hK)|(clear hK;refine hK _ ?_;clear hK)|(clear hK;clear hK;refine hK _ ?_;clear hK)|(clear hK;clear hK;clear hK;refine hK _ ?_;clear hK)|(clear hK;clear hK;clear hK;clear hK;refine hK _ ?_;clear hK)|(refine zI fun K hK=>?_)|((first | refine zG ?_ | refine zN rfl (by kernel_rfl) ?_ | refine zM ?_ | refine zK (by kernel_rfl) ?_);simp only [xI,xH,strip])|((first | refine wIs fun K hK=>?_ | refine wOs fun K hK=>?_ | refine wQs fun K hK=>?_ | refine zU ?_ | refine zV ?_ | refine zW ?_ | refine zL ?_);simp [g1,g2,g3,g4,g5])|(refine wIn ?_;refine And.intro (by kernel_rfl) ?_;try simp only [zX])|(first | refine zQ ?_ | refine zS ?_)|((first | refine zH ?_ | refine zO ?_ | refine zP ?_);try simp)|((first | refine zR ?_ | refine wOn ?_ | refine wQn ?_);try simp only [zX])
    all_goals apply hr
    all_goals simp [Tryd.f12,g5']
  by_cases g6 : 1099511627776 < n
  · have g6' : ¬ n ≤ 1099511627776 := by omega
    refine zJ Tryd.tab Tryd.mixed Tryd.func12 rfl rfl Tryd.ntmps12 (by simp) (by simp) fun Q hr hn=>?_
    repeat' first|(refine hK _ ?_;clear hK)|(refine hK _ _ ?_;clear hK)|(clear hK;refine hK _ ?_;clear hK)|(clear hK;clear hK;refine hK _ ?_;clear hK)|(clear hK;clear hK;clear hK;refine hK _ ?_;clear hK)|(clear hK;clear hK;clear hK;clear hK;refine hK _ ?_;clear hK)|(refine zI fun K hK=>?_)|((first | refine zG ?_ | refine zN rfl (by kernel_rfl) ?_ | refine zM ?_ | refine zK (by kernel_rfl) ?_);simp only [xI,xH,strip])|((first | refine wIs fun K hK=>?_ | refine wOs fun K hK=>?_ | refine wQs fun K hK=>?_ | refine zU ?_ | refine zV ?_ | refine zW ?_ | refine zL ?_);simp [g1,g2,g3,g4,g5,g6])|(refine wIn ?_;refine And.intro (by kernel_rfl) ?_;try simp only [zX])|(first | refine zQ ?_ | refine zS ?_)|((first | refine zH ?_ | refine zO ?_ | refine zP ?_);try simp)|((first | refine zR ?_ | refine wOn ?_ | refine wQn ?_);try simp only [zX])
    all_goals apply hr
    all_goals simp [Tryd.f12,g6']
  rw [if_pos ⟨⟨by omega,by omega⟩,⟨by omega,by omega⟩,⟨by omega,by omega⟩⟩]
  refine zJ Tryd.tab Tryd.mixed Tryd.func12 rfl rfl Tryd.ntmps12 (by simp) (by simp) fun Q hr hn=>?_
  repeat' first|(refine hK _ ?_;clear hK)|(refine hK _ _ ?_;clear hK)|(clear hK;refine hK _ ?_;clear hK)|(clear hK;clear hK;refine hK _ ?_;clear hK)|(clear hK;clear hK;clear hK;refine hK _ ?_;clear hK)|(clear hK;clear hK;clear hK;clear hK;refine hK _ ?_;clear hK)|(refine zI fun K hK=>?_)|((first | refine zG ?_ | refine zN rfl (by kernel_rfl) ?_ | refine zM ?_ | refine zK (by kernel_rfl) ?_);simp only [xI,xH,strip])|((first | refine wIs fun K hK=>?_ | refine wOs fun K hK=>?_ | refine wQs fun K hK=>?_ | refine zU ?_ | refine zV ?_ | refine zW ?_ | refine zL ?_);simp [g1,g2,g3,g4,g5,g6])|(refine wIn ?_;refine And.intro (by kernel_rfl) ?_;try simp only [zX])|(first | refine zQ ?_ | refine zS ?_)|((first | refine zH ?_ | refine zO ?_ | refine zP ?_);try simp)|((first | refine zR ?_ | refine wOn ?_ | refine wQn ?_);try simp only [zX])
  refine wLoop (fun N st => ∃ (k : Nat) (a b : Int), k + N = l.length ∧ st.s 1 = .ptr 1 0 ∧ st.b 1 = some (.box 26 [.p (I ep), .p (I n), .p (I kind), .p (.sl 4 (mbs l))]) ∧ st.s 40 = .p (.sl 4 (mbs l)) ∧ st.s 41 = .p (I l.length) ∧ st.s 42 = .p (I k) ∧ st.s 3 = .p (I a) ∧ st.s 4 = .p (I b) ∧ fine (prevI l k) (l.drop k) = fine (-1) l ∧
    (0 ≤ a ∧ a ≤ 100 * k ∧ a + wsum (l.drop k) = wsum l) ∧ (0 ≤ b ∧ b ≤ k ∧ b + cnt (l.drop k) = cnt l)) l.length ⟨0,0,0,by simp [prevI_zero]⟩ fun K N st hL ⟨k,a,b,hk,h1,b1,h40,h41,h42,h3,h4,hi,⟨ha0,ha1,ha⟩,⟨hb0,hb1,hb⟩⟩=>?_
  by_cases hlt : k < l.length
  · have hw := wrapS k _ hlt (by omega)
    have hwb : IntKind.i64.wrap (b + 1) = b + 1:=by rw [yT] <;> omega
    rw [List.drop_eq_getElem_cons hlt,fine] at hi
    rw [List.drop_eq_getElem_cons hlt,wsum] at ha
    rw [List.drop_eq_getElem_cons hlt,cnt] at hb
    have cr:=ok04_con l[k]
    simp only [Mb.cells] at cr
    by_cases o1 : okM l[k]
    · rw [decide_eq_true o1] at cr
      have hw0:=o1.2.2.1
      have hwa : IntKind.i64.wrap (a + l[k].w) = a + l[k].w:=by rw [yT] <;> omega
      by_cases o2 : 0 < k
      · have o2' : (0 : Int) < k := by omega
        have hw1 : IntKind.i64.wrap ((k : Int) - 1) = ((k - 1 : Nat) : Int):=by rw [yT] <;> omega
        have hk1 : k - 1 < l.length:=by omega
        rw [prevI_pos l k o2 hlt] at hi
        by_cases o3 : l[k].i ≤ l[k - 1].i
        · repeat' first | (refine hK _ ?_; clear hK) | (refine hK _ _ ?_; clear hK) | (clear hK; refine hK _ ?_; clear hK) | (clear hK; clear hK; refine hK _ ?_; clear hK) | (clear hK; clear hK; clear hK; refine hK _ ?_; clear hK) | (clear hK; clear hK; clear hK; clear hK; refine hK _ ?_; clear hK) | (refine zI fun K hK => ?_) | ((first | refine zG ?_ | refine zN rfl (by kernel_rfl) ?_ | refine zM ?_ | refine zK (by kernel_rfl) ?_); simp only [xI, xH, strip]) | ((first | refine wIs fun K hK => ?_ | refine wOs fun K hK => ?_ | refine wQs fun K hK => ?_ | refine zU ?_ | refine zV ?_ | refine zW ?_ | refine zL ?_); simp [h1, b1, h40, h41, h42, h3, h4, hlt, hw, o2, o2', hw1, hk1, o3]) | (refine wIn ?_; refine And.intro (by kernel_rfl) ?_; try simp only [zX]) | (first | refine zQ ?_ | refine zS ?_) | ((first | refine zH ?_ | refine zO ?_ | refine zP ?_); try simp) | ((first | refine zR ?_ | refine wOn ?_ | refine wQn ?_); try simp only [zX]) | (refine zZ.pure (cr) rfl ?_) | (refine zZ.lent (cr) rfl ?_) | (refine zT.pure (cr) rfl ?_) | (refine zT.lent (cr) rfl ?_) | (refine zZ.own (cr) ?_) | (refine zY.pure (cr) rfl ?_) | (refine zY.lent (cr) rfl ?_) | (refine zY.own (cr) ?_)
          all_goals apply hr
          all_goals simp [Tryd.f12]
          all_goals rw [decide_eq_false (by omega)] at hi
          all_goals simp [← hi]
        · rw [decide_eq_true ⟨o1, by omega⟩, Bool.true_and] at hi
          by_cases o4 : l[k].r = 1
          · rw [o4] at cr
            repeat' first|(refine hK _ ?_;clear hK)|(refine hK _ _ ?_;clear hK)|(clear hK;refine hK _ ?_;clear hK)|(clear hK;clear hK;refine hK _ ?_;clear hK)|(clear hK;clear hK;clear hK;refine hK _ ?_;clear hK)|(clear hK;clear hK;clear hK;clear hK;refine hK _ ?_;clear hK)|(refine zI fun K hK=>?_)|((first | refine zG ?_ | refine zN rfl (by kernel_rfl) ?_ | refine zM ?_ | refine zK (by kernel_rfl) ?_);simp only [xI,xH,strip])|((first | refine wIs fun K hK=>?_ | refine wOs fun K hK=>?_ | refine wQs fun K hK=>?_ | refine zU ?_ | refine zV ?_ | refine zW ?_ | refine zL ?_);simp [h1,b1,h40,h41,h42,h3,h4,hlt,hw,o2,o2',hw1,hk1,o3,o4,hwa,hwb])|(refine wIn ?_;refine And.intro (by kernel_rfl) ?_;try simp only [zX])|(first | refine zQ ?_ | refine zS ?_)|((first | refine zH ?_ | refine zO ?_ | refine zP ?_);try simp)|((first | refine zR ?_ | refine wOn ?_ | refine wQn ?_);try simp only [zX])|(refine zZ.pure (cr) rfl ?_)|(refine zZ.lent (cr) rfl ?_)|(refine zT.pure (cr) rfl ?_)|(refine zT.lent (cr) rfl ?_)|(refine zZ.own (cr) ?_)|(refine zY.pure (cr) rfl ?_)|(refine zY.lent (cr) rfl ?_)|(refine zY.own (cr) ?_)
            refine hL _ (N - 1) (by omega) ⟨k + 1,a + l[k].w,b + 1,by omega,?_⟩
            rw [if_pos o4] at ha hb
            simp [h1,b1,h40,h41,hw,hwa,hwb]
            rw [prevI_succ l k hlt]
            refine ⟨hi,⟨by omega,by omega,by omega⟩,by omega,by omega⟩
          · repeat' first | (refine hK _ ?_; clear hK) | (refine hK _ _ ?_; clear hK) | (clear hK; refine hK _ ?_; clear hK) | (clear hK; clear hK; refine hK _ ?_; clear hK) | (clear hK; clear hK; clear hK; refine hK _ ?_; clear hK) | (clear hK; clear hK; clear hK; clear hK; refine hK _ ?_; clear hK) | (refine zI fun K hK => ?_) | ((first | refine zG ?_ | refine zN rfl (by kernel_rfl) ?_ | refine zM ?_ | refine zK (by kernel_rfl) ?_); simp only [xI, xH, strip]) | ((first | refine wIs fun K hK => ?_ | refine wOs fun K hK => ?_ | refine wQs fun K hK => ?_ | refine zU ?_ | refine zV ?_ | refine zW ?_ | refine zL ?_); simp [h1, b1, h40, h41, h42, h3, h4, hlt, hw, o2, o2', hw1, hk1, o3, o4]) | (refine wIn ?_; refine And.intro (by kernel_rfl) ?_; try simp only [zX]) | (first | refine zQ ?_ | refine zS ?_) | ((first | refine zH ?_ | refine zO ?_ | refine zP ?_); try simp) | ((first | refine zR ?_ | refine wOn ?_ | refine wQn ?_); try simp only [zX]) | (refine zZ.pure (cr) rfl ?_) | (refine zZ.lent (cr) rfl ?_) | (refine zT.pure (cr) rfl ?_) | (refine zT.lent (cr) rfl ?_) | (refine zZ.own (cr) ?_) | (refine zY.pure (cr) rfl ?_) | (refine zY.lent (cr) rfl ?_) | (refine zY.own (cr) ?_)
            refine hL _ (N - 1) (by omega) ⟨k + 1,a,b,by omega,?_⟩
            rw [if_neg o4] at ha hb
            simp [h1,b1,h40,h41,h3,h4,hw]
            rw [prevI_succ l k hlt]
            refine ⟨hi,⟨by omega,by omega,by omega⟩,by omega,by omega,by omega⟩
      · obtain rfl : k = 0 := by omega
        have:=o1.1.1
        rw [prevI_zero,decide_eq_true ⟨o1,by omega⟩,Bool.true_and] at hi
        simp at h42 hw
        by_cases o4 : l[0].r = 1
        · rw [o4] at cr
          repeat' first|(refine hK _ ?_;clear hK)|(refine hK _ _ ?_;clear hK)|(clear hK;refine hK _ ?_;clear hK)|(clear hK;clear hK;refine hK _ ?_;clear hK)|(clear hK;clear hK;clear hK;refine hK _ ?_;clear hK)|(clear hK;clear hK;clear hK;clear hK;refine hK _ ?_;clear hK)|(refine zI fun K hK=>?_)|((first | refine zG ?_ | refine zN rfl (by kernel_rfl) ?_ | refine zM ?_ | refine zK (by kernel_rfl) ?_);simp only [xI,xH,strip])|((first | refine wIs fun K hK=>?_ | refine wOs fun K hK=>?_ | refine wQs fun K hK=>?_ | refine zU ?_ | refine zV ?_ | refine zW ?_ | refine zL ?_);simp [h1,b1,h40,h41,h42,h3,h4,hlt,hw,o4,hwa,hwb])|(refine wIn ?_;refine And.intro (by kernel_rfl) ?_;try simp only [zX])|(first | refine zQ ?_ | refine zS ?_)|((first | refine zH ?_ | refine zO ?_ | refine zP ?_);try simp)|((first | refine zR ?_ | refine wOn ?_ | refine wQn ?_);try simp only [zX])|(refine zZ.pure (cr) rfl ?_)|(refine zZ.lent (cr) rfl ?_)|(refine zT.pure (cr) rfl ?_)|(refine zT.lent (cr) rfl ?_)|(refine zZ.own (cr) ?_)|(refine zY.pure (cr) rfl ?_)|(refine zY.lent (cr) rfl ?_)|(refine zY.own (cr) ?_)
          refine hL _ (N - 1) (by omega) ⟨0 + 1,a + l[0].w,b + 1,by omega,?_⟩
          rw [if_pos o4] at ha hb
          rw [prevI_succ l 0 hlt]
          simp [h1,b1,h40,h41,hw,hwa,hwb]
          rw [← List.drop_one]
          simp only [Nat.zero_add] at ha hb hi
          refine ⟨hi,⟨by omega,by omega,by omega⟩,by omega,by omega,by omega⟩
        · repeat' first | (refine hK _ ?_; clear hK) | (refine hK _ _ ?_; clear hK) | (clear hK; refine hK _ ?_; clear hK) | (clear hK; clear hK; refine hK _ ?_; clear hK) | (clear hK; clear hK; clear hK; refine hK _ ?_; clear hK) | (clear hK; clear hK; clear hK; clear hK; refine hK _ ?_; clear hK) | (refine zI fun K hK => ?_) | ((first | refine zG ?_ | refine zN rfl (by kernel_rfl) ?_ | refine zM ?_ | refine zK (by kernel_rfl) ?_); simp only [xI, xH, strip]) | ((first | refine wIs fun K hK => ?_ | refine wOs fun K hK => ?_ | refine wQs fun K hK => ?_ | refine zU ?_ | refine zV ?_ | refine zW ?_ | refine zL ?_); simp [h1, b1, h40, h41, h42, h3, h4, hlt, hw, o4]) | (refine wIn ?_; refine And.intro (by kernel_rfl) ?_; try simp only [zX]) | (first | refine zQ ?_ | refine zS ?_) | ((first | refine zH ?_ | refine zO ?_ | refine zP ?_); try simp) | ((first | refine zR ?_ | refine wOn ?_ | refine wQn ?_); try simp only [zX]) | (refine zZ.pure (cr) rfl ?_) | (refine zZ.lent (cr) rfl ?_) | (refine zT.pure (cr) rfl ?_) | (refine zT.lent (cr) rfl ?_) | (refine zZ.own (cr) ?_) | (refine zY.pure (cr) rfl ?_) | (refine zY.lent (cr) rfl ?_) | (refine zY.own (cr) ?_)
          refine hL _ (N - 1) (by omega) ⟨0 + 1,a,b,by omega,?_⟩
          rw [if_neg o4] at ha hb
          rw [prevI_succ l 0 hlt]
          simp [h1,b1,h40,h41,h3,h4,hw]
          rw [← List.drop_one]
          simp only [Nat.zero_add] at ha hb hi
          refine ⟨hi,⟨by omega,by omega,by omega⟩,by omega,by omega,by omega⟩
    · rw [decide_eq_false o1] at cr
      repeat' first|(refine hK _ ?_;clear hK)|(refine hK _ _ ?_;clear hK)|(clear hK;refine hK _ ?_;clear hK)|(clear hK;clear hK;refine hK _ ?_;clear hK)|(clear hK;clear hK;clear hK;refine hK _ ?_;clear hK)|(clear hK;clear hK;clear hK;clear hK;refine hK _ ?_;clear hK)|(refine zI fun K hK=>?_)|((first | refine zG ?_ | refine zN rfl (by kernel_rfl) ?_ | refine zM ?_ | refine zK (by kernel_rfl) ?_);simp only [xI,xH,strip])|((first | refine wIs fun K hK=>?_ | refine wOs fun K hK=>?_ | refine wQs fun K hK=>?_ | refine zU ?_ | refine zV ?_ | refine zW ?_ | refine zL ?_);simp [h1,b1,h40,h41,h42,h3,h4,hlt,hw])|(refine wIn ?_;refine And.intro (by kernel_rfl) ?_;try simp only [zX])|(first | refine zQ ?_ | refine zS ?_)|((first | refine zH ?_ | refine zO ?_ | refine zP ?_);try simp)|((first | refine zR ?_ | refine wOn ?_ | refine wQn ?_);try simp only [zX])|(refine zZ.pure (cr) rfl ?_)|(refine zZ.lent (cr) rfl ?_)|(refine zT.pure (cr) rfl ?_)|(refine zT.lent (cr) rfl ?_)|(refine zZ.own (cr) ?_)|(refine zY.pure (cr) rfl ?_)|(refine zY.lent (cr) rfl ?_)|(refine zY.own (cr) ?_)
      all_goals apply hr
      all_goals simp [Tryd.f12]
      all_goals simp [← hi,o1]
  · rw [List.drop_of_length_le (by omega)] at hi ha hb
    have hi' : fine (-1) l = true:=hi ▸ rfl
    obtain ⟨e1,e2,e3,e4,e5⟩:=sums kind l _ hi'
    simp only [wsum,cnt,Int.add_zero] at ha hb
    subst ha hb
    by_cases g5 : cnt l = 0
    · repeat' first | (refine hK _ ?_; clear hK) | (refine hK _ _ ?_; clear hK) | (clear hK; refine hK _ ?_; clear hK) | (clear hK; clear hK; refine hK _ ?_; clear hK) | (clear hK; clear hK; clear hK; refine hK _ ?_; clear hK) | (clear hK; clear hK; clear hK; clear hK; refine hK _ ?_; clear hK) | (refine zI fun K hK => ?_) | ((first | refine zG ?_ | refine zN rfl (by kernel_rfl) ?_ | refine zM ?_ | refine zK (by kernel_rfl) ?_); simp only [xI, xH, strip]) | ((first | refine wIs fun K hK => ?_ | refine wOs fun K hK => ?_ | refine wQs fun K hK => ?_ | refine zU ?_ | refine zV ?_ | refine zW ?_ | refine zL ?_); simp [h1, b1, h40, h41, h42, h3, h4, hlt, g5]) | (refine wIn ?_; refine And.intro (by kernel_rfl) ?_; try simp only [zX]) | (first | refine zQ ?_ | refine zS ?_) | ((first | refine zH ?_ | refine zO ?_ | refine zP ?_); try simp) | ((first | refine zR ?_ | refine wOn ?_ | refine wQn ?_); try simp only [zX])
      all_goals apply hr
      all_goals simp [Tryd.f12,hi']
      all_goals by_cases g6 : kind = 1
      all_goals first | rw [e4 g6,decide_eq_false (by omega)] | rw [e5 g6,decide_eq_false (by omega)]
      all_goals rfl
    · by_cases g6 : kind = 1
      · repeat' first | (refine hK _ ?_; clear hK) | (refine hK _ _ ?_; clear hK) | (clear hK; refine hK _ ?_; clear hK) | (clear hK; clear hK; refine hK _ ?_; clear hK) | (clear hK; clear hK; clear hK; refine hK _ ?_; clear hK) | (clear hK; clear hK; clear hK; clear hK; refine hK _ ?_; clear hK) | (refine zI fun K hK => ?_) | ((first | refine zG ?_ | refine zN rfl (by kernel_rfl) ?_ | refine zM ?_ | refine zK (by kernel_rfl) ?_); simp only [xI, xH, strip]) | ((first | refine wIs fun K hK => ?_ | refine wOs fun K hK => ?_ | refine wQs fun K hK => ?_ | refine zU ?_ | refine zV ?_ | refine zW ?_ | refine zL ?_); simp [h1, b1, h40, h41, h42, h3, h4, hlt, g5, g6]) | (refine wIn ?_; refine And.intro (by kernel_rfl) ?_; try simp only [zX]) | (first | refine zQ ?_ | refine zS ?_) | ((first | refine zH ?_ | refine zO ?_ | refine zP ?_); try simp) | ((first | refine zR ?_ | refine wOn ?_ | refine wQn ?_); try simp only [zX])
        all_goals apply hr
        all_goals simp [Tryd.f12,hi']
        all_goals rw [e4 g6,decide_eq_true (by omega)]
        all_goals rfl
      · by_cases g7 : wsum l = 0
        · repeat' first | (refine hK _ ?_; clear hK) | (refine hK _ _ ?_; clear hK) | (clear hK; refine hK _ ?_; clear hK) | (clear hK; clear hK; refine hK _ ?_; clear hK) | (clear hK; clear hK; clear hK; refine hK _ ?_; clear hK) | (clear hK; clear hK; clear hK; clear hK; refine hK _ ?_; clear hK) | (refine zI fun K hK => ?_) | ((first | refine zG ?_ | refine zN rfl (by kernel_rfl) ?_ | refine zM ?_ | refine zK (by kernel_rfl) ?_); simp only [xI, xH, strip]) | ((first | refine wIs fun K hK => ?_ | refine wOs fun K hK => ?_ | refine wQs fun K hK => ?_ | refine zU ?_ | refine zV ?_ | refine zW ?_ | refine zL ?_); simp [h1, b1, h40, h41, h42, h3, h4, hlt, g5, g6, g7]) | (refine wIn ?_; refine And.intro (by kernel_rfl) ?_; try simp only [zX]) | (first | refine zQ ?_ | refine zS ?_) | ((first | refine zH ?_ | refine zO ?_ | refine zP ?_); try simp) | ((first | refine zR ?_ | refine wOn ?_ | refine wQn ?_); try simp only [zX])
          all_goals apply hr
          all_goals simp [Tryd.f12,hi']
          all_goals rw [e5 g6,decide_eq_false (by omega)]
          all_goals rfl
        · repeat' first | (refine hK _ ?_; clear hK) | (refine hK _ _ ?_; clear hK) | (clear hK; refine hK _ ?_; clear hK) | (clear hK; clear hK; refine hK _ ?_; clear hK) | (clear hK; clear hK; clear hK; refine hK _ ?_; clear hK) | (clear hK; clear hK; clear hK; clear hK; refine hK _ ?_; clear hK) | (refine zI fun K hK => ?_) | ((first | refine zG ?_ | refine zN rfl (by kernel_rfl) ?_ | refine zM ?_ | refine zK (by kernel_rfl) ?_); simp only [xI, xH, strip]) | ((first | refine wIs fun K hK => ?_ | refine wOs fun K hK => ?_ | refine wQs fun K hK => ?_ | refine zU ?_ | refine zV ?_ | refine zW ?_ | refine zL ?_); simp [h1, b1, h40, h41, h42, h3, h4, hlt, g5, g6, g7]) | (refine wIn ?_; refine And.intro (by kernel_rfl) ?_; try simp only [zX]) | (first | refine zQ ?_ | refine zS ?_) | ((first | refine zH ?_ | refine zO ?_ | refine zP ?_); try simp) | ((first | refine zR ?_ | refine wOn ?_ | refine wQn ?_); try simp only [zX])
          all_goals apply hr
          all_goals simp [Tryd.f12,hi']
          all_goals rw [e5 g6,decide_eq_true (by omega)]
          all_goals rfl
def ids (l : List Mb) (r : Int) : List Int := (l.filter fun m => decide (m.r = r)).map Mb.i
theorem ids_snoc (l : List Mb) (r : Int) (k : Nat) (h : k < l.length) : ids (l.take (k + 1)) r = if l[k].r = r then ids (l.take k) r ++ [l[k].i] else ids (l.take k) r := by
  rw [take_snoc _ k h];unfold ids
  rw [List.filter_append,List.map_append]
  by_cases g : l[k].r = r
  · rw [if_pos g];simp only [List.filter,g,decide_true,xI,xH]
  · rw [if_neg g];simp only [List.filter,g,decide_false,xH,List.append_nil]
theorem ids_len (l : List Mb) (r : Int) : (ids l r).length ≤ l.length := by simp [ids, List.length_filter_le]
theorem ids_con (c : Cf) (r : Int) (hl : c.ms.length ≤ 1000000) : zF Tryd.prog 28 [.p (.agg c.cells), .p (I r)] (.p (.sl 1 (ints (ids c.ms r)))) := by
  obtain ⟨ep,n,kind,l⟩:=c
  simp only [Cf.cells] at hl ⊢
  refine zJ Tryd.tab Tryd.mixed Tryd.func28 rfl rfl Tryd.ntmps28 (by simp) (by simp) fun Q hr hn=>?_
  repeat' first|(refine hK _ ?_;clear hK)|(refine hK _ _ ?_;clear hK)|(clear hK;refine hK _ ?_;clear hK)|(clear hK;clear hK;refine hK _ ?_;clear hK)|(clear hK;clear hK;clear hK;refine hK _ ?_;clear hK)|(clear hK;clear hK;clear hK;clear hK;refine hK _ ?_;clear hK)|(refine zI fun K hK=>?_)|((first | refine zG ?_ | refine zN rfl (by kernel_rfl) ?_ | refine zM ?_ | refine zK (by kernel_rfl) ?_);simp only [xI,xH,strip])|((first | refine wIs fun K hK=>?_ | refine wOs fun K hK=>?_ | refine wQs fun K hK=>?_ | refine zU ?_ | refine zV ?_ | refine zW ?_ | refine zL ?_);simp)|(refine wIn ?_;refine And.intro (by kernel_rfl) ?_;try simp only [zX])|(first | refine zQ ?_ | refine zS ?_)|((first | refine zH ?_ | refine zO ?_ | refine zP ?_);try simp)|((first | refine zR ?_ | refine wOn ?_ | refine wQn ?_);try simp only [zX])
  refine wLoopG [.row 5 3 1] (fun N st => ∃ k, k + N = l.length ∧ st.s 2 = .ptr 2 0 ∧ st.b 2 = some (.box 26 [.p (I ep), .p (I n), .p (I kind), .p (.sl 4 (mbs l))]) ∧ st.s 1 = .p (I r) ∧ st.s 5 = .row 5 ∧ st.s 9 = .p (.sl 4 (mbs l)) ∧ st.s 10 = .p (I l.length) ∧ st.s 11 = .p (I k) ∧
    st.b 5 = some (.row 3 1 (ints (ids (l.take k) r)))) l.length ⟨0,by simp [ids,ints]⟩ fun K N st hL ⟨k,hk,h2,b2,h1,h5,h9,h10,h11,b5⟩=>?_
  by_cases hlt : k < l.length
  · have hw := wrapS k _ hlt (by omega)
    have hln : (ids (l.take k) r).length ≤ k:=Nat.le_trans (ids_len _ _) (by simp;omega)
    by_cases g1 : l[k].r = r
    · repeat' first | (refine And.intro (by omega) ?_) | (refine hK _ ?_; clear hK) | (refine hK _ _ ?_; clear hK) | (clear hK; refine hK _ ?_; clear hK) | (clear hK; clear hK; refine hK _ ?_; clear hK) | (clear hK; clear hK; clear hK; refine hK _ ?_; clear hK) | (clear hK; clear hK; clear hK; clear hK; refine hK _ ?_; clear hK) | (refine zI fun K hK => ?_) | ((first | refine zG ?_ | refine zN rfl (by kernel_rfl) ?_ | refine zM ?_ | refine zK (by kernel_rfl) ?_); simp only [xI, xH, strip]) | ((first | refine wIs fun K hK => ?_ | refine wOs fun K hK => ?_ | refine wQs fun K hK => ?_ | refine zU ?_ | refine zV ?_ | refine zW ?_ | refine zL ?_); simp [h2, b2, h1, h5, h9, h10, h11, b5, hlt, hw, g1]) | (refine wIn ?_; refine And.intro (by kernel_rfl) ?_; try simp only [zX]) | (first | refine zQ ?_ | refine zS ?_) | ((first | refine zH ?_ | refine zO ?_ | refine zP ?_); try simp) | ((first | refine zR ?_ | refine wOn ?_ | refine wQn ?_); try simp only [zX])
      refine hL _ (N - 1) (by omega) ⟨k + 1,by omega,?_⟩
      simp [h2,b2,h1,h5,h9,h10,hw,b5]
      rw [ints_snoc,ids_snoc l r k hlt,if_pos g1]
    · repeat' first | (refine hK _ ?_; clear hK) | (refine hK _ _ ?_; clear hK) | (clear hK; refine hK _ ?_; clear hK) | (clear hK; clear hK; refine hK _ ?_; clear hK) | (clear hK; clear hK; clear hK; refine hK _ ?_; clear hK) | (clear hK; clear hK; clear hK; clear hK; refine hK _ ?_; clear hK) | (refine zI fun K hK => ?_) | ((first | refine zG ?_ | refine zN rfl (by kernel_rfl) ?_ | refine zM ?_ | refine zK (by kernel_rfl) ?_); simp only [xI, xH, strip]) | ((first | refine wIs fun K hK => ?_ | refine wOs fun K hK => ?_ | refine wQs fun K hK => ?_ | refine zU ?_ | refine zV ?_ | refine zW ?_ | refine zL ?_); simp [h2, b2, h1, h5, h9, h10, h11, b5, hlt, hw, g1]) | (refine wIn ?_; refine And.intro (by kernel_rfl) ?_; try simp only [zX]) | (first | refine zQ ?_ | refine zS ?_) | ((first | refine zH ?_ | refine zO ?_ | refine zP ?_); try simp) | ((first | refine zR ?_ | refine wOn ?_ | refine wQn ?_); try simp only [zX])
      refine hL _ (N - 1) (by omega) ⟨k + 1,by omega,?_⟩
      simp [h2,b2,h1,h5,h9,h10,hw,b5]
      rw [ids_snoc l r k hlt,if_neg g1]
  · repeat' first | (refine hK _ ?_; clear hK) | (refine hK _ _ ?_; clear hK) | (clear hK; refine hK _ ?_; clear hK) | (clear hK; clear hK; refine hK _ ?_; clear hK) | (clear hK; clear hK; clear hK; refine hK _ ?_; clear hK) | (clear hK; clear hK; clear hK; clear hK; refine hK _ ?_; clear hK) | (refine zI fun K hK => ?_) | ((first | refine zG ?_ | refine zN rfl (by kernel_rfl) ?_ | refine zM ?_ | refine zK (by kernel_rfl) ?_); simp only [xI, xH, strip]) | ((first | refine wIs fun K hK => ?_ | refine wOs fun K hK => ?_ | refine wQs fun K hK => ?_ | refine zU ?_ | refine zV ?_ | refine zW ?_ | refine zL ?_); simp [h2, b2, h1, h5, h9, h10, h11, b5, hlt]) | (refine wIn ?_; refine And.intro (by kernel_rfl) ?_; try simp only [zX]) | (first | refine zQ ?_ | refine zS ?_) | ((first | refine zH ?_ | refine zO ?_ | refine zP ?_); try simp) | ((first | refine zR ?_ | refine wOn ?_ | refine wQn ?_); try simp only [zX])
    apply hr
    rw [List.take_of_length_le (by omega)] at b5
    simp [Tryd.f28,h5,b5]
theorem role04_con (c : Cf) (r : Int) (hl : c.ms.length ≤ 1000000) : zF Tryd.prog 29 [.p (.agg c.cells), .p (I r)] (.p (.sl 1 (ints (ids c.ms r)))) := by
  obtain ⟨ep,n,kind,l⟩:=c
  simp only [Cf.cells] at hl ⊢
  refine zJ Tryd.tab Tryd.mixed Tryd.func29 rfl rfl Tryd.ntmps29 (by simp) (by simp) fun Q hr hn=>?_
  repeat' first|(refine hK _ ?_;clear hK)|(refine hK _ _ ?_;clear hK)|(clear hK;refine hK _ ?_;clear hK)|(clear hK;clear hK;refine hK _ ?_;clear hK)|(clear hK;clear hK;clear hK;refine hK _ ?_;clear hK)|(clear hK;clear hK;clear hK;clear hK;refine hK _ ?_;clear hK)|(refine zI fun K hK=>?_)|((first | refine zG ?_ | refine zN rfl (by kernel_rfl) ?_ | refine zM ?_ | refine zK (by kernel_rfl) ?_);simp only [xI,xH,strip])|((first | refine wIs fun K hK=>?_ | refine wOs fun K hK=>?_ | refine wQs fun K hK=>?_ | refine zU ?_ | refine zV ?_ | refine zW ?_ | refine zL ?_);simp)|(refine wIn ?_;refine And.intro (by kernel_rfl) ?_;try simp only [zX])|(first | refine zQ ?_ | refine zS ?_)|((first | refine zH ?_ | refine zO ?_ | refine zP ?_);try simp)|((first | refine zR ?_ | refine wOn ?_ | refine wQn ?_);try simp only [zX])
  refine wLoopG [.row 5 3 1] (fun N st => ∃ k, k + N = l.length ∧ st.s 2 = .ptr 2 0 ∧ st.b 2 = some (.box 26 [.p (I ep), .p (I n), .p (I kind), .p (.sl 4 (mbs l))]) ∧ st.s 1 = .p (I r) ∧ st.s 5 = .row 5 ∧ st.s 9 = .p (.sl 4 (mbs l)) ∧ st.s 10 = .p (I l.length) ∧ st.s 11 = .p (I k) ∧
    st.b 5 = some (.row 3 1 (ints (ids (l.take k) r)))) l.length ⟨0,by simp [ids,ints]⟩ fun K N st hL ⟨k,hk,h2,b2,h1,h5,h9,h10,h11,b5⟩=>?_
  by_cases hlt : k < l.length
  · have hw := wrapS k _ hlt (by omega)
    have hln : (ids (l.take k) r).length ≤ k:=Nat.le_trans (ids_len _ _) (by simp;omega)
    by_cases g1 : l[k].r = r
    · repeat' first | (refine And.intro (by omega) ?_) | (refine hK _ ?_; clear hK) | (refine hK _ _ ?_; clear hK) | (clear hK; refine hK _ ?_; clear hK) | (clear hK; clear hK; refine hK _ ?_; clear hK) | (clear hK; clear hK; clear hK; refine hK _ ?_; clear hK) | (clear hK; clear hK; clear hK; clear hK; refine hK _ ?_; clear hK) | (refine zI fun K hK => ?_) | ((first | refine zG ?_ | refine zN rfl (by kernel_rfl) ?_ | refine zM ?_ | refine zK (by kernel_rfl) ?_); simp only [xI, xH, strip]) | ((first | refine wIs fun K hK => ?_ | refine wOs fun K hK => ?_ | refine wQs fun K hK => ?_ | refine zU ?_ | refine zV ?_ | refine zW ?_ | refine zL ?_); simp [h2, b2, h1, h5, h9, h10, h11, b5, hlt, hw, g1]) | (refine wIn ?_; refine And.intro (by kernel_rfl) ?_; try simp only [zX]) | (first | refine zQ ?_ | refine zS ?_) | ((first | refine zH ?_ | refine zO ?_ | refine zP ?_); try simp) | ((first | refine zR ?_ | refine wOn ?_ | refine wQn ?_); try simp only [zX])
      refine hL _ (N - 1) (by omega) ⟨k + 1,by omega,?_⟩
      simp [h2,b2,h1,h5,h9,h10,hw,b5]
      rw [ints_snoc,ids_snoc l r k hlt,if_pos g1]
    · repeat' first | (refine hK _ ?_; clear hK) | (refine hK _ _ ?_; clear hK) | (clear hK; refine hK _ ?_; clear hK) | (clear hK; clear hK; refine hK _ ?_; clear hK) | (clear hK; clear hK; clear hK; refine hK _ ?_; clear hK) | (clear hK; clear hK; clear hK; clear hK; refine hK _ ?_; clear hK) | (refine zI fun K hK => ?_) | ((first | refine zG ?_ | refine zN rfl (by kernel_rfl) ?_ | refine zM ?_ | refine zK (by kernel_rfl) ?_); simp only [xI, xH, strip]) | ((first | refine wIs fun K hK => ?_ | refine wOs fun K hK => ?_ | refine wQs fun K hK => ?_ | refine zU ?_ | refine zV ?_ | refine zW ?_ | refine zL ?_); simp [h2, b2, h1, h5, h9, h10, h11, b5, hlt, hw, g1]) | (refine wIn ?_; refine And.intro (by kernel_rfl) ?_; try simp only [zX]) | (first | refine zQ ?_ | refine zS ?_) | ((first | refine zH ?_ | refine zO ?_ | refine zP ?_); try simp) | ((first | refine zR ?_ | refine wOn ?_ | refine wQn ?_); try simp only [zX])
      refine hL _ (N - 1) (by omega) ⟨k + 1,by omega,?_⟩
      simp [h2,b2,h1,h5,h9,h10,hw,b5]
      rw [ids_snoc l r k hlt,if_neg g1]
  · repeat' first | (refine hK _ ?_; clear hK) | (refine hK _ _ ?_; clear hK) | (clear hK; refine hK _ ?_; clear hK) | (clear hK; clear hK; refine hK _ ?_; clear hK) | (clear hK; clear hK; clear hK; refine hK _ ?_; clear hK) | (clear hK; clear hK; clear hK; clear hK; refine hK _ ?_; clear hK) | (refine zI fun K hK => ?_) | ((first | refine zG ?_ | refine zN rfl (by kernel_rfl) ?_ | refine zM ?_ | refine zK (by kernel_rfl) ?_); simp only [xI, xH, strip]) | ((first | refine wIs fun K hK => ?_ | refine wOs fun K hK => ?_ | refine wQs fun K hK => ?_ | refine zU ?_ | refine zV ?_ | refine zW ?_ | refine zL ?_); simp [h2, b2, h1, h5, h9, h10, h11, b5, hlt]) | (refine wIn ?_; refine And.intro (by kernel_rfl) ?_; try simp only [zX]) | (first | refine zQ ?_ | refine zS ?_) | ((first | refine zH ?_ | refine zO ?_ | refine zP ?_); try simp) | ((first | refine zR ?_ | refine wOn ?_ | refine wQn ?_); try simp only [zX])
    apply hr
    rw [List.take_of_length_le (by omega)] at b5
    simp [Tryd.f29,h5,b5]
theorem voters_con (c : Cf) (hl : c.ms.length ≤ 1000000) : zF Tryd.prog 14 [.p (.agg c.cells)] (.p (.sl 1 (ints (ids c.ms 1)))) := by
  have h:=ids_con c 1 hl
  simp only [Cf.cells] at h ⊢
  generalize ids c.ms 1 = z at h
  refine zJ Tryd.tab Tryd.mixed Tryd.func14 rfl rfl Tryd.ntmps14 (by simp) (by simp) fun Q hr hn=>?_
  repeat' first|(refine hK _ ?_;clear hK)|(refine hK _ _ ?_;clear hK)|(clear hK;refine hK _ ?_;clear hK)|(clear hK;clear hK;refine hK _ ?_;clear hK)|(clear hK;clear hK;clear hK;refine hK _ ?_;clear hK)|(clear hK;clear hK;clear hK;clear hK;refine hK _ ?_;clear hK)|(refine zI fun K hK=>?_)|((first | refine zG ?_ | refine zN rfl (by kernel_rfl) ?_ | refine zM ?_ | refine zK (by kernel_rfl) ?_);simp only [xI,xH,strip])|((first | refine wIs fun K hK=>?_ | refine wOs fun K hK=>?_ | refine wQs fun K hK=>?_ | refine zU ?_ | refine zV ?_ | refine zW ?_ | refine zL ?_);simp)|(refine wIn ?_;refine And.intro (by kernel_rfl) ?_;try simp only [zX])|(first | refine zQ ?_ | refine zS ?_)|((first | refine zH ?_ | refine zO ?_ | refine zP ?_);try simp)|((first | refine zR ?_ | refine wOn ?_ | refine wQn ?_);try simp only [zX])|(refine zZ.pure (h) rfl ?_)|(refine zZ.lent (h) rfl ?_)|(refine zT.pure (h) rfl ?_)|(refine zT.lent (h) rfl ?_)|(refine zZ.own (h) ?_)|(refine zY.pure (h) rfl ?_)|(refine zY.lent (h) rfl ?_)|(refine zY.own (h) ?_)
  apply hr
  simp [Tryd.f14]
theorem voters04_con (c : Cf) (hl : c.ms.length ≤ 1000000) : zF Tryd.prog 15 [.p (.agg c.cells)] (.p (.sl 1 (ints (ids c.ms 1)))) := by
  have h:=role04_con c 1 hl
  simp only [Cf.cells] at h ⊢
  generalize ids c.ms 1 = z at h
  refine zJ Tryd.tab Tryd.mixed Tryd.func15 rfl rfl Tryd.ntmps15 (by simp) (by simp) fun Q hr hn=>?_
  repeat' first|(refine hK _ ?_;clear hK)|(refine hK _ _ ?_;clear hK)|(clear hK;refine hK _ ?_;clear hK)|(clear hK;clear hK;refine hK _ ?_;clear hK)|(clear hK;clear hK;clear hK;refine hK _ ?_;clear hK)|(clear hK;clear hK;clear hK;clear hK;refine hK _ ?_;clear hK)|(refine zI fun K hK=>?_)|((first | refine zG ?_ | refine zN rfl (by kernel_rfl) ?_ | refine zM ?_ | refine zK (by kernel_rfl) ?_);simp only [xI,xH,strip])|((first | refine wIs fun K hK=>?_ | refine wOs fun K hK=>?_ | refine wQs fun K hK=>?_ | refine zU ?_ | refine zV ?_ | refine zW ?_ | refine zL ?_);simp)|(refine wIn ?_;refine And.intro (by kernel_rfl) ?_;try simp only [zX])|(first | refine zQ ?_ | refine zS ?_)|((first | refine zH ?_ | refine zO ?_ | refine zP ?_);try simp)|((first | refine zR ?_ | refine wOn ?_ | refine wQn ?_);try simp only [zX])|(refine zZ.pure (h) rfl ?_)|(refine zZ.lent (h) rfl ?_)|(refine zT.pure (h) rfl ?_)|(refine zT.lent (h) rfl ?_)|(refine zZ.own (h) ?_)|(refine zY.pure (h) rfl ?_)|(refine zY.lent (h) rfl ?_)|(refine zY.own (h) ?_)
  apply hr
  simp [Tryd.f15]
end Go.Proofs.YtjekjpgccnhobaaDoor
