/- Texts that the proof needs: ZT QB QC. -/
import Derived.Test.YtjekjpgccnhobaaDoorP24ConfigBack
/- Layer 2: texts, read and written; the laws ZxidTexts, ZxidBack. -/
namespace Go.Proofs.YtjekjpgccnhobaaDoor
set_option linter.unusedSimpArgs false
set_option linter.unusedVariables false
open Go Go.Av
attribute [local irreducible] Go.Av.CallK Go.Av.zZ Go.Av.CallQ Go.Av.zW Go.Av.CallR Go.Av.zY Go.Av.Con
def ix (l : List UInt8) : Nat := l.findIdx (· == 46)
theorem ix_le (l : List UInt8) : ix l ≤ l.length := List.findIdx_le_length
theorem indexByte_ix (l : List UInt8) : Go.Lib.indexByte l 46 = if ix l = l.length then -1 else (ix l : Int) := by
  induction l with
  | nil=>rfl
  | cons a r ih =>
    unfold Go.Lib.indexByte ix
    rw [List.findIdx_cons]
    cases h : a == 46 with
    | true=>simp
    | false =>
      have hix : List.findIdx (· == 46) r = ix r:=rfl
      simp only [Bool.false_eq_true,if_false,cond_false,hix,List.length_cons]
      rw [ih]
      by_cases g : ix r = r.length
      · rw [if_pos g,if_pos (by simp),if_pos (by omega)]
      · rw [if_neg g, if_neg (by simp), if_neg (by omega)]
        push_cast;rfl
theorem ix_at {l : List UInt8} (h : ix l < l.length) : l[ix l] = 46 := by
  have:=List.findIdx_getElem (p:=(· == 46)) (xs:=l) (w:=h)
  exact eq_of_beq this
def prs (l : List UInt8) : Zx × Int :=
  if ix l = l.length then (⟨0,0⟩,3) else if (num (l.take (ix l))).2 = true ∧ (num (l.drop (ix l + 1))).2 = true then (⟨(num (l.take (ix l))).1,(num (l.drop (ix l + 1))).1⟩,0) else (⟨0,0⟩,3)
theorem indexB_con (l : List UInt8) : zD Tryd.prog 68 [.p (SB l), .p (.v (.int .u8 46))] (.p (I (Go.Lib.indexByte l 46))) := by
  have c:=indexByteString_con (bs l) 46
  simp only [bs_list,show (46 : Int).toNat.toUInt8 = 46 from rfl] at c
  refine zK Tryd.tab Tryd.mixed Tryd.func68 rfl rfl Tryd.ntmps68 (by simp) (by simp) fun Q hr hn=>?_
  repeat' first|(refine hK _ ?_;clear hK)|(refine hK _ _ ?_;clear hK)|(clear hK;refine hK _ ?_;clear hK)|(clear hK;clear hK;refine hK _ ?_;clear hK)|(clear hK;clear hK;clear hK;refine hK _ ?_;clear hK)|(clear hK;clear hK;clear hK;clear hK;refine hK _ ?_;clear hK)|(refine zI fun K hK=>?_)|((first | refine zG ?_ | refine zN rfl (by kernel_rfl) ?_ | refine zM ?_ | refine zJ (by kernel_rfl) ?_);simp only [xC,xB,strip])|((first | refine wIs fun K hK=>?_ | refine wOs fun K hK=>?_ | refine wQs fun K hK=>?_ | refine zT ?_ | refine zU ?_ | refine zV ?_ | refine zL ?_);simp)|(refine wIn ?_;refine And.intro (by kernel_rfl) ?_;try simp only [zX])|(first | refine zQ ?_ | refine zS ?_)|((first | refine zH ?_ | refine zO ?_ | refine zP ?_);try simp)|((first | refine zR ?_ | refine wOn ?_ | refine wQn ?_);try simp only [zX])|(refine zZ.pure (c) rfl ?_)|(refine zZ.lent (c) rfl ?_)|(refine zW.pure (c) rfl ?_)|(refine zW.lent (c) rfl ?_)|(refine zZ.own (c) ?_)|(refine zY.pure (c) rfl ?_)|(refine zY.lent (c) rfl ?_)|(refine zY.own (c) ?_)
  all_goals apply hr
  all_goals simp [Tryd.f68]
theorem index1_con (l : List UInt8) : zD Tryd.prog 61 [.p (SB l), .p (SB [46])] (.p (I (Go.Lib.indexByte l 46))) := by
  have c:=indexB_con l
  by_cases h : l = [46]
  · subst h
    have e : Go.Lib.indexByte [46] 46 = 0:=rfl
    rw [e] at c ⊢
    refine zK Tryd.tab Tryd.mixed Tryd.func61 rfl rfl Tryd.ntmps61 (by simp) (by simp) fun Q hr hn=>?_
    repeat' first|(refine hK _ ?_;clear hK)|(refine hK _ _ ?_;clear hK)|(clear hK;refine hK _ ?_;clear hK)|(clear hK;clear hK;refine hK _ ?_;clear hK)|(clear hK;clear hK;clear hK;refine hK _ ?_;clear hK)|(clear hK;clear hK;clear hK;clear hK;refine hK _ ?_;clear hK)|(refine zI fun K hK=>?_)|((first | refine zG ?_ | refine zN rfl (by kernel_rfl) ?_ | refine zM ?_ | refine zJ (by kernel_rfl) ?_);simp only [xC,xB,strip])|((first | refine wIs fun K hK=>?_ | refine wOs fun K hK=>?_ | refine wQs fun K hK=>?_ | refine zT ?_ | refine zU ?_ | refine zV ?_ | refine zL ?_);simp)|(refine wIn ?_;refine And.intro (by kernel_rfl) ?_;try simp only [zX])|(first | refine zQ ?_ | refine zS ?_)|((first | refine zH ?_ | refine zO ?_ | refine zP ?_);try simp)|((first | refine zR ?_ | refine wOn ?_ | refine wQn ?_);try simp only [zX])|(refine zZ.pure (c) rfl ?_)|(refine zZ.lent (c) rfl ?_)|(refine zW.pure (c) rfl ?_)|(refine zW.lent (c) rfl ?_)|(refine zZ.own (c) ?_)|(refine zY.pure (c) rfl ?_)|(refine zY.lent (c) rfl ?_)|(refine zY.own (c) ?_)
    all_goals apply hr
    all_goals simp [Tryd.f61]
  · have h' : ¬ [46] = l := fun e => h e.symm
    refine zK Tryd.tab Tryd.mixed Tryd.func61 rfl rfl Tryd.ntmps61 (by simp) (by simp) fun Q hr hn=>?_
    repeat' first|(refine hK _ ?_;clear hK)|(refine hK _ _ ?_;clear hK)|(clear hK;refine hK _ ?_;clear hK)|(clear hK;clear hK;refine hK _ ?_;clear hK)|(clear hK;clear hK;clear hK;refine hK _ ?_;clear hK)|(clear hK;clear hK;clear hK;clear hK;refine hK _ ?_;clear hK)|(refine zI fun K hK=>?_)|((first | refine zG ?_ | refine zN rfl (by kernel_rfl) ?_ | refine zM ?_ | refine zJ (by kernel_rfl) ?_);simp only [xC,xB,strip])|((first | refine wIs fun K hK=>?_ | refine wOs fun K hK=>?_ | refine wQs fun K hK=>?_ | refine zT ?_ | refine zU ?_ | refine zV ?_ | refine zL ?_);simp [h,h'])|(refine wIn ?_;refine And.intro (by kernel_rfl) ?_;try simp only [zX])|(first | refine zQ ?_ | refine zS ?_)|((first | refine zH ?_ | refine zO ?_ | refine zP ?_);try simp)|((first | refine zR ?_ | refine wOn ?_ | refine wQn ?_);try simp only [zX])|(refine zZ.pure (c) rfl ?_)|(refine zZ.lent (c) rfl ?_)|(refine zW.pure (c) rfl ?_)|(refine zW.lent (c) rfl ?_)|(refine zZ.own (c) ?_)|(refine zY.pure (c) rfl ?_)|(refine zY.lent (c) rfl ?_)|(refine zY.own (c) ?_)
    all_goals apply hr
    all_goals simp [Tryd.f61]
def cutV (l : List UInt8) : V := if ix l = l.length then .tup [.p (SB l), .p (SB []), .p (B false)] else .tup [.p (SB (l.take (ix l))), .p (SB (l.drop (ix l + 1))), .p (B true)]
theorem cutL_con (l : List UInt8) (hl : l.length ≤ 9223372036854775807) : zD Tryd.prog 56 [.p (SB l), .p (SB [46])] (cutV l) := by
  have c:=index1_con l
  rw [indexByte_ix] at c
  have hle:=ix_le l
  unfold cutV
  by_cases h : ix l = l.length
  · rw [if_pos h] at c ⊢
    refine zK Tryd.tab Tryd.mixed Tryd.func56 rfl rfl Tryd.ntmps56 (by simp) (by simp) fun Q hr hn=>?_
    repeat' first|(refine hK _ ?_;clear hK)|(refine hK _ _ ?_;clear hK)|(clear hK;refine hK _ ?_;clear hK)|(clear hK;clear hK;refine hK _ ?_;clear hK)|(clear hK;clear hK;clear hK;refine hK _ ?_;clear hK)|(clear hK;clear hK;clear hK;clear hK;refine hK _ ?_;clear hK)|(refine zI fun K hK=>?_)|((first | refine zG ?_ | refine zN rfl (by kernel_rfl) ?_ | refine zM ?_ | refine zJ (by kernel_rfl) ?_);simp only [xC,xB,strip])|((first | refine wIs fun K hK=>?_ | refine wOs fun K hK=>?_ | refine wQs fun K hK=>?_ | refine zT ?_ | refine zU ?_ | refine zV ?_ | refine zL ?_);simp)|(refine wIn ?_;refine And.intro (by kernel_rfl) ?_;try simp only [zX])|(first | refine zQ ?_ | refine zS ?_)|((first | refine zH ?_ | refine zO ?_ | refine zP ?_);try simp)|((first | refine zR ?_ | refine wOn ?_ | refine wQn ?_);try simp only [zX])|(refine zZ.pure (c) rfl ?_)|(refine zZ.lent (c) rfl ?_)|(refine zW.pure (c) rfl ?_)|(refine zW.lent (c) rfl ?_)|(refine zZ.own (c) ?_)|(refine zY.pure (c) rfl ?_)|(refine zY.lent (c) rfl ?_)|(refine zY.own (c) ?_)
    all_goals apply hr
    all_goals simp [Tryd.f56]
  · rw [if_neg h] at c ⊢
    have hlt : ix l < l.length:=by omega
    have hw : IntKind.i64.wrap ((ix l : Int) + 1) = ((ix l + 1 : Nat) : Int):=by rw [yI] <;> omega
    have h1 : ix l + 1 ≤ l.length:=by omega
    have h0 : (0 : Int) ≤ (ix l : Int) + 1:=by omega
    have ht : (((ix l + 1 : Nat) : Int)).toNat = ix l + 1:=by omega
    generalize ix l = x at *
    refine zK Tryd.tab Tryd.mixed Tryd.func56 rfl rfl Tryd.ntmps56 (by simp) (by simp) fun Q hr hn=>?_
    repeat' first|(refine hK _ ?_;clear hK)|(refine hK _ _ ?_;clear hK)|(clear hK;refine hK _ ?_;clear hK)|(clear hK;clear hK;refine hK _ ?_;clear hK)|(clear hK;clear hK;clear hK;refine hK _ ?_;clear hK)|(clear hK;clear hK;clear hK;clear hK;refine hK _ ?_;clear hK)|(refine zI fun K hK=>?_)|((first | refine zG ?_ | refine zN rfl (by kernel_rfl) ?_ | refine zM ?_ | refine zJ (by kernel_rfl) ?_);simp only [xC,xB,strip])|((first | refine wIs fun K hK=>?_ | refine wOs fun K hK=>?_ | refine wQs fun K hK=>?_ | refine zT ?_ | refine zU ?_ | refine zV ?_ | refine zL ?_);simp [hw,hle,h1,h0,ht])|(refine wIn ?_;refine And.intro (by kernel_rfl) ?_;try simp only [zX])|(first | refine zQ ?_ | refine zS ?_)|((first | refine zH ?_ | refine zO ?_ | refine zP ?_);try simp)|((first | refine zR ?_ | refine wOn ?_ | refine wQn ?_);try simp only [zX])|(refine zZ.pure (c) rfl ?_)|(refine zZ.lent (c) rfl ?_)|(refine zW.pure (c) rfl ?_)|(refine zW.lent (c) rfl ?_)|(refine zZ.own (c) ?_)|(refine zY.pure (c) rfl ?_)|(refine zY.lent (c) rfl ?_)|(refine zY.own (c) ?_)
    all_goals apply hr
    all_goals simp [Tryd.f56]
theorem cut_con (l : List UInt8) (hl : l.length ≤ 9223372036854775807) : zD Tryd.prog 48 [.p (SB l), .p (SB [46])] (cutV l) := by
  have c:=cutL_con l hl
  unfold cutV at c ⊢
  by_cases h : ix l = l.length
  · rw [if_pos h] at c ⊢
    refine zK Tryd.tab Tryd.mixed Tryd.func48 rfl rfl Tryd.ntmps48 (by simp) (by simp) fun Q hr hn=>?_
    repeat' first|(refine hK _ ?_;clear hK)|(refine hK _ _ ?_;clear hK)|(clear hK;refine hK _ ?_;clear hK)|(clear hK;clear hK;refine hK _ ?_;clear hK)|(clear hK;clear hK;clear hK;refine hK _ ?_;clear hK)|(clear hK;clear hK;clear hK;clear hK;refine hK _ ?_;clear hK)|(refine zI fun K hK=>?_)|((first | refine zG ?_ | refine zN rfl (by kernel_rfl) ?_ | refine zM ?_ | refine zJ (by kernel_rfl) ?_);simp only [xC,xB,strip])|((first | refine wIs fun K hK=>?_ | refine wOs fun K hK=>?_ | refine wQs fun K hK=>?_ | refine zT ?_ | refine zU ?_ | refine zV ?_ | refine zL ?_);simp)|(refine wIn ?_;refine And.intro (by kernel_rfl) ?_;try simp only [zX])|(first | refine zQ ?_ | refine zS ?_)|((first | refine zH ?_ | refine zO ?_ | refine zP ?_);try simp)|((first | refine zR ?_ | refine wOn ?_ | refine wQn ?_);try simp only [zX])|(refine zZ.pure (c) rfl ?_)|(refine zZ.lent (c) rfl ?_)|(refine zW.pure (c) rfl ?_)|(refine zW.lent (c) rfl ?_)|(refine zZ.own (c) ?_)|(refine zY.pure (c) rfl ?_)|(refine zY.lent (c) rfl ?_)|(refine zY.own (c) ?_)
    all_goals apply hr
    all_goals simp [Tryd.f48]
  · rw [if_neg h] at c ⊢
    refine zK Tryd.tab Tryd.mixed Tryd.func48 rfl rfl Tryd.ntmps48 (by simp) (by simp) fun Q hr hn=>?_
    repeat' first|(refine hK _ ?_;clear hK)|(refine hK _ _ ?_;clear hK)|(clear hK;refine hK _ ?_;clear hK)|(clear hK;clear hK;refine hK _ ?_;clear hK)|(clear hK;clear hK;clear hK;refine hK _ ?_;clear hK)|(clear hK;clear hK;clear hK;clear hK;refine hK _ ?_;clear hK)|(refine zI fun K hK=>?_)|((first | refine zG ?_ | refine zN rfl (by kernel_rfl) ?_ | refine zM ?_ | refine zJ (by kernel_rfl) ?_);simp only [xC,xB,strip])|((first | refine wIs fun K hK=>?_ | refine wOs fun K hK=>?_ | refine wQs fun K hK=>?_ | refine zT ?_ | refine zU ?_ | refine zV ?_ | refine zL ?_);simp)|(refine wIn ?_;refine And.intro (by kernel_rfl) ?_;try simp only [zX])|(first | refine zQ ?_ | refine zS ?_)|((first | refine zH ?_ | refine zO ?_ | refine zP ?_);try simp)|((first | refine zR ?_ | refine wOn ?_ | refine wQn ?_);try simp only [zX])|(refine zZ.pure (c) rfl ?_)|(refine zZ.lent (c) rfl ?_)|(refine zW.pure (c) rfl ?_)|(refine zW.lent (c) rfl ?_)|(refine zZ.own (c) ?_)|(refine zY.pure (c) rfl ?_)|(refine zY.lent (c) rfl ?_)|(refine zY.own (c) ?_)
    all_goals apply hr
    all_goals simp [Tryd.f48]
theorem parse_con (l : List UInt8) (hl : l.length ≤ 9223372036854775807) : zD Tryd.prog 41 [.p (SB l)] (.tup [.p (.agg [I (prs l).1.e, I (prs l).1.n]), .p (I (prs l).2)]) := by
  have c:=cut_con l hl
  unfold cutV at c
  unfold prs
  by_cases h : ix l = l.length
  · rw [if_pos h] at c ⊢
    have c1:=number_con l hl
    have c2:=number_con [] (by simp)
    rw [show num [] = (0,false) from rfl] at c2
    generalize num l = p at c1
    refine zK Tryd.tab Tryd.mixed Tryd.func41 rfl rfl Tryd.ntmps41 (by simp) (by simp) fun Q hr hn=>?_
    repeat' first|(refine hK _ ?_;clear hK)|(refine hK _ _ ?_;clear hK)|(clear hK;refine hK _ ?_;clear hK)|(clear hK;clear hK;refine hK _ ?_;clear hK)|(clear hK;clear hK;clear hK;refine hK _ ?_;clear hK)|(clear hK;clear hK;clear hK;clear hK;refine hK _ ?_;clear hK)|(refine zI fun K hK=>?_)|((first | refine zG ?_ | refine zN rfl (by kernel_rfl) ?_ | refine zM ?_ | refine zJ (by kernel_rfl) ?_);simp only [xC,xB,strip])|((first | refine wIs fun K hK=>?_ | refine wOs fun K hK=>?_ | refine wQs fun K hK=>?_ | refine zT ?_ | refine zU ?_ | refine zV ?_ | refine zL ?_);simp)|(refine wIn ?_;refine And.intro (by kernel_rfl) ?_;try simp only [zX])|(first | refine zQ ?_ | refine zS ?_)|((first | refine zH ?_ | refine zO ?_ | refine zP ?_);try simp)|((first | refine zR ?_ | refine wOn ?_ | refine wQn ?_);try simp only [zX])|(refine zZ.pure (c) rfl ?_)|(refine zZ.lent (c) rfl ?_)|(refine zW.pure (c) rfl ?_)|(refine zW.lent (c) rfl ?_)|(refine zZ.own (c) ?_)|(refine zY.pure (c) rfl ?_)|(refine zY.lent (c) rfl ?_)|(refine zY.own (c) ?_)|(refine zZ.pure (c1) rfl ?_)|(refine zZ.lent (c1) rfl ?_)|(refine zW.pure (c1) rfl ?_)|(refine zW.lent (c1) rfl ?_)|(refine zZ.own (c1) ?_)|(refine zY.pure (c1) rfl ?_)|(refine zY.lent (c1) rfl ?_)|(refine zY.own (c1) ?_)|(refine zZ.pure (c2) rfl ?_)|(refine zZ.lent (c2) rfl ?_)|(refine zW.pure (c2) rfl ?_)|(refine zW.lent (c2) rfl ?_)|(refine zZ.own (c2) ?_)|(refine zY.pure (c2) rfl ?_)|(refine zY.lent (c2) rfl ?_)|(refine zY.own (c2) ?_)
    all_goals apply hr
    all_goals simp [Tryd.f41]
  · rw [if_neg h] at c ⊢
    have c1:=number_con (l.take (ix l)) (by simp;omega)
    have c2:=number_con (l.drop (ix l + 1)) (by simp;omega)
    generalize num (l.take (ix l)) = p at c1
    generalize num (l.drop (ix l + 1)) = q at c2
    obtain ⟨p1,p2⟩:=p
    obtain ⟨q1,q2⟩:=q
    cases p2 <;> cases q2
    all_goals simp only [Bool.false_eq_true,and_false,false_and,and_self,if_false,if_true] at c1 c2 ⊢
    all_goals refine zK Tryd.tab Tryd.mixed Tryd.func41 rfl rfl Tryd.ntmps41 (by simp) (by simp) fun Q hr hn=>?_
    all_goals repeat' first|(refine hK _ ?_;clear hK)|(refine hK _ _ ?_;clear hK)|(clear hK;refine hK _ ?_;clear hK)|(clear hK;clear hK;refine hK _ ?_;clear hK)|(clear hK;clear hK;clear hK;refine hK _ ?_;clear hK)|(clear hK;clear hK;clear hK;clear hK;refine hK _ ?_;clear hK)|(refine zI fun K hK=>?_)|((first | refine zG ?_ | refine zN rfl (by kernel_rfl) ?_ | refine zM ?_ | refine zJ (by kernel_rfl) ?_);simp only [xC,xB,strip])|((first | refine wIs fun K hK=>?_ | refine wOs fun K hK=>?_ | refine wQs fun K hK=>?_ | refine zT ?_ | refine zU ?_ | refine zV ?_ | refine zL ?_);simp)|(refine wIn ?_;refine And.intro (by kernel_rfl) ?_;try simp only [zX])|(first | refine zQ ?_ | refine zS ?_)|((first | refine zH ?_ | refine zO ?_ | refine zP ?_);try simp)|((first | refine zR ?_ | refine wOn ?_ | refine wQn ?_);try simp only [zX])|(refine zZ.pure (c) rfl ?_)|(refine zZ.lent (c) rfl ?_)|(refine zW.pure (c) rfl ?_)|(refine zW.lent (c) rfl ?_)|(refine zZ.own (c) ?_)|(refine zY.pure (c) rfl ?_)|(refine zY.lent (c) rfl ?_)|(refine zY.own (c) ?_)|(refine zZ.pure (c1) rfl ?_)|(refine zZ.lent (c1) rfl ?_)|(refine zW.pure (c1) rfl ?_)|(refine zW.lent (c1) rfl ?_)|(refine zZ.own (c1) ?_)|(refine zY.pure (c1) rfl ?_)|(refine zY.lent (c1) rfl ?_)|(refine zY.own (c1) ?_)|(refine zZ.pure (c2) rfl ?_)|(refine zZ.lent (c2) rfl ?_)|(refine zW.pure (c2) rfl ?_)|(refine zW.lent (c2) rfl ?_)|(refine zZ.own (c2) ?_)|(refine zY.pure (c2) rfl ?_)|(refine zY.lent (c2) rfl ?_)|(refine zY.own (c2) ?_)
    all_goals apply hr
    all_goals simp [Tryd.f41]
def txt (z : Zx) : List UInt8 := if rgt z.e = true ∧ rgt z.n = true then Go.Lib.itoa z.e ++ 46 :: Go.Lib.itoa z.n else []
theorem dv_app (m : List UInt8) (d : UInt8) : dv (m ++ [d]) = 10 * dv m + ((d.toNat : Int) - 48) := by
  simp [dv,List.foldl_append]
theorem dig_of (k : Nat) (h : k < 10) : dig (UInt8.ofNat (48 + k)) = true ∧ ((UInt8.ofNat (48 + k)).toNat : Int) - 48 = k := by
  have e : (UInt8.ofNat (48 + k)).toNat = 48 + k := by
    rw [UInt8.toNat_ofNat'];omega
  refine ⟨by simp [dig,e];omega,by rw [e];omega⟩
theorem dec_spec : ∀ u : Nat, (Go.Lib.decDigits u).all dig = true ∧ dv (Go.Lib.decDigits u) = u ∧ Go.Lib.decDigits u ≠ [] ∧ (∀ b r, Go.Lib.decDigits u = b :: r → b = 48 → r = []) ∧ (∀ k, u < 10 ^ (k + 1) → (Go.Lib.decDigits u).length ≤ k + 1) := by
  intro u
  induction u using Nat.strongRecOn with
  | _ u ih =>
    by_cases h : u < 10
    · rw [Go.Lib.decDigits, dif_pos h]
      obtain ⟨h1,h2⟩:=dig_of u h
      have hdv : dv [UInt8.ofNat (48 + u)] = 10 * 0 + (((UInt8.ofNat (48 + u)).toNat : Int) - 48):=rfl
      refine ⟨by simp only [List.all_cons,h1,List.all_nil,Bool.and_self],by omega,by simp,fun b r e hb=>by simp at e;exact e.2,fun k _=>by simp⟩
    · rw [Go.Lib.decDigits, dif_neg h]
      obtain ⟨a1,a2,a3,a4,a5⟩:=ih (u / 10) (by omega)
      obtain ⟨h1,h2⟩:=dig_of (u % 10) (by omega)
      refine ⟨by rw [List.all_append,a1,Bool.true_and];simp only [List.all_cons,h1,List.all_nil,Bool.and_self],by rw [dv_app,a2,h2];omega,by simp,fun b r e hb=>?_,fun k hk=>?_⟩
      · exfalso
        cases hd : Go.Lib.decDigits (u / 10) with
        | nil=>exact a3 hd
        | cons c t =>
          rw [hd] at e
          simp only [List.cons_append,List.cons.injEq] at e
          have ht:=a4 c t hd (by rw [e.1];exact hb)
          subst ht
          rw [hd,e.1,hb] at a2
          simp [dv] at a2
          omega
      · cases k with
        | zero=>simp at hk;omega
        | succ k =>
          have:=a5 k (by rw [Nat.pow_succ] at hk;omega)
          simp;omega
theorem itoa_dec {n : Int} (h : rgt n = true) : Go.Lib.itoa n = Go.Lib.decDigits n.toNat := by
  simp only [rgt,decide_eq_true_eq] at h
  unfold Go.Lib.itoa;rw [if_neg (by omega)]
theorem itoa_len {n : Int} (h : rgt n = true) : (Go.Lib.itoa n).length ≤ 13 := by
  rw [itoa_dec h]
  simp only [rgt,decide_eq_true_eq] at h
  exact (dec_spec n.toNat).2.2.2.2 12 (by omega)
theorem text_con (z : Zx) : zD Tryd.prog 33 [.p (.agg [I z.e, I z.n])] (.p (SB (txt z))) := by
  obtain ⟨e,n⟩:=z
  have c1 : zD Tryd.prog 38 [.p (I e)] (.p (B (rgt e))):=counts_con e
  have c2 : zD Tryd.prog 38 [.p (I n)] (.p (B (rgt n))):=counts_con n
  have c3:=fun h=>itoa_con (n:=e) h
  have c4:=fun h=>itoa_con (n:=n) h
  have l3:=fun h=>itoa_len (n:=e) h
  have l4:=fun h=>itoa_len (n:=n) h
  unfold txt
  dsimp only
  generalize Go.Lib.itoa e = x at *
  generalize Go.Lib.itoa n = y at *
  cases h1 : rgt e
  · rw [h1] at c1
    simp only [Bool.false_eq_true,false_and,if_false]
    refine zK Tryd.tab Tryd.mixed Tryd.func33 rfl rfl Tryd.ntmps33 (by simp) (by simp) fun Q hr hn=>?_
    repeat' first|(refine hK _ ?_;clear hK)|(refine hK _ _ ?_;clear hK)|(clear hK;refine hK _ ?_;clear hK)|(clear hK;clear hK;refine hK _ ?_;clear hK)|(clear hK;clear hK;clear hK;refine hK _ ?_;clear hK)|(clear hK;clear hK;clear hK;clear hK;refine hK _ ?_;clear hK)|(refine zI fun K hK=>?_)|((first | refine zG ?_ | refine zN rfl (by kernel_rfl) ?_ | refine zM ?_ | refine zJ (by kernel_rfl) ?_);simp only [xC,xB,strip])|((first | refine wIs fun K hK=>?_ | refine wOs fun K hK=>?_ | refine wQs fun K hK=>?_ | refine zT ?_ | refine zU ?_ | refine zV ?_ | refine zL ?_);simp)|(refine wIn ?_;refine And.intro (by kernel_rfl) ?_;try simp only [zX])|(first | refine zQ ?_ | refine zS ?_)|((first | refine zH ?_ | refine zO ?_ | refine zP ?_);try simp)|((first | refine zR ?_ | refine wOn ?_ | refine wQn ?_);try simp only [zX])|(refine zZ.pure (c1) rfl ?_)|(refine zZ.lent (c1) rfl ?_)|(refine zW.pure (c1) rfl ?_)|(refine zW.lent (c1) rfl ?_)|(refine zZ.own (c1) ?_)|(refine zY.pure (c1) rfl ?_)|(refine zY.lent (c1) rfl ?_)|(refine zY.own (c1) ?_)
    all_goals apply hr
    all_goals simp [Tryd.f33]
  cases h2 : rgt n
  · rw [h1] at c1
    rw [h2] at c2
    simp only [Bool.false_eq_true,and_false,if_false]
    refine zK Tryd.tab Tryd.mixed Tryd.func33 rfl rfl Tryd.ntmps33 (by simp) (by simp) fun Q hr hn=>?_
    repeat' first|(refine hK _ ?_;clear hK)|(refine hK _ _ ?_;clear hK)|(clear hK;refine hK _ ?_;clear hK)|(clear hK;clear hK;refine hK _ ?_;clear hK)|(clear hK;clear hK;clear hK;refine hK _ ?_;clear hK)|(clear hK;clear hK;clear hK;clear hK;refine hK _ ?_;clear hK)|(refine zI fun K hK=>?_)|((first | refine zG ?_ | refine zN rfl (by kernel_rfl) ?_ | refine zM ?_ | refine zJ (by kernel_rfl) ?_);simp only [xC,xB,strip])|((first | refine wIs fun K hK=>?_ | refine wOs fun K hK=>?_ | refine wQs fun K hK=>?_ | refine zT ?_ | refine zU ?_ | refine zV ?_ | refine zL ?_);simp)|(refine wIn ?_;refine And.intro (by kernel_rfl) ?_;try simp only [zX])|(first | refine zQ ?_ | refine zS ?_)|((first | refine zH ?_ | refine zO ?_ | refine zP ?_);try simp)|((first | refine zR ?_ | refine wOn ?_ | refine wQn ?_);try simp only [zX])|(refine zZ.pure (c1) rfl ?_)|(refine zZ.lent (c1) rfl ?_)|(refine zW.pure (c1) rfl ?_)|(refine zW.lent (c1) rfl ?_)|(refine zZ.own (c1) ?_)|(refine zY.pure (c1) rfl ?_)|(refine zY.lent (c1) rfl ?_)|(refine zY.own (c1) ?_)|(refine zZ.pure (c2) rfl ?_)|(refine zZ.lent (c2) rfl ?_)|(refine zW.pure (c2) rfl ?_)|(refine zW.lent (c2) rfl ?_)|(refine zZ.own (c2) ?_)|(refine zY.pure (c2) rfl ?_)|(refine zY.lent (c2) rfl ?_)|(refine zY.own (c2) ?_)
    all_goals apply hr
    all_goals simp [Tryd.f33]
  · rw [h1] at c1
    rw [h2] at c2
    replace c3:=c3 h1
    replace c4:=c4 h2
    replace l3:=l3 h1
    replace l4:=l4 h2
    have s1 : x.length + 1 ≤ 9223372036854775807:=by omega
    have s2 : x.length + 1 + y.length ≤ 9223372036854775807:=by omega
    simp only [and_self,if_true]
    refine zK Tryd.tab Tryd.mixed Tryd.func33 rfl rfl Tryd.ntmps33 (by simp) (by simp) fun Q hr hn=>?_
    repeat' first|(refine hK _ ?_;clear hK)|(refine hK _ _ ?_;clear hK)|(clear hK;refine hK _ ?_;clear hK)|(clear hK;clear hK;refine hK _ ?_;clear hK)|(clear hK;clear hK;clear hK;refine hK _ ?_;clear hK)|(clear hK;clear hK;clear hK;clear hK;refine hK _ ?_;clear hK)|(refine zI fun K hK=>?_)|((first | refine zG ?_ | refine zN rfl (by kernel_rfl) ?_ | refine zM ?_ | refine zJ (by kernel_rfl) ?_);simp only [xC,xB,strip])|((first | refine wIs fun K hK=>?_ | refine wOs fun K hK=>?_ | refine wQs fun K hK=>?_ | refine zT ?_ | refine zU ?_ | refine zV ?_ | refine zL ?_);simp [s1,s2])|(refine wIn ?_;refine And.intro (by kernel_rfl) ?_;try simp only [zX])|(first | refine zQ ?_ | refine zS ?_)|((first | refine zH ?_ | refine zO ?_ | refine zP ?_);try simp)|((first | refine zR ?_ | refine wOn ?_ | refine wQn ?_);try simp only [zX])|(refine zZ.pure (c1) rfl ?_)|(refine zZ.lent (c1) rfl ?_)|(refine zW.pure (c1) rfl ?_)|(refine zW.lent (c1) rfl ?_)|(refine zZ.own (c1) ?_)|(refine zY.pure (c1) rfl ?_)|(refine zY.lent (c1) rfl ?_)|(refine zY.own (c1) ?_)|(refine zZ.pure (c2) rfl ?_)|(refine zZ.lent (c2) rfl ?_)|(refine zW.pure (c2) rfl ?_)|(refine zW.lent (c2) rfl ?_)|(refine zZ.own (c2) ?_)|(refine zY.pure (c2) rfl ?_)|(refine zY.lent (c2) rfl ?_)|(refine zY.own (c2) ?_)|(refine zZ.pure (c3) rfl ?_)|(refine zZ.lent (c3) rfl ?_)|(refine zW.pure (c3) rfl ?_)|(refine zW.lent (c3) rfl ?_)|(refine zZ.own (c3) ?_)|(refine zY.pure (c3) rfl ?_)|(refine zY.lent (c3) rfl ?_)|(refine zY.own (c3) ?_)|(refine zZ.pure (c4) rfl ?_)|(refine zZ.lent (c4) rfl ?_)|(refine zW.pure (c4) rfl ?_)|(refine zW.lent (c4) rfl ?_)|(refine zZ.own (c4) ?_)|(refine zY.pure (c4) rfl ?_)|(refine zY.lent (c4) rfl ?_)|(refine zY.own (c4) ?_)
    all_goals apply hr
    all_goals simp [Tryd.f33]
/- Which configs may be, who votes, who is found: the program's and the document's. -/
def carrier (kind : Int) (m : Mb) : Bool := decide (m.r = 1) && (decide (kind = 1) || decide (0 < m.w))
def xE (kind : Int) (l : List Mb) : Bool := l.any (carrier kind)
def fine (p : Int) : List Mb → Bool
  | []=>true
  | m :: l=>decide (okM m ∧ p < m.i) && fine m.i l
def ranged (c : Cf) : Prop := (1 ≤ c.kind ∧ c.kind ≤ 3) ∧ (0 ≤ c.ep ∧ c.ep ≤ 1099511627776) ∧ (0 ≤ c.n ∧ c.n ≤ 1099511627776)
instance (c : Cf) : Decidable (ranged c) := by unfold ranged; infer_instance
def check (c : Cf) : Int := if ranged c then if fine (-1) c.ms = true then if xE c.kind c.ms = true then 0 else 15 else 1 else 1
theorem carried_con (c : Cf) (hl : c.ms.length ≤ 1000000) : zD Tryd.prog 26 [.p (.agg c.cells)] (.p (B (xE c.kind c.ms))) := by
  obtain ⟨ep,n,kind,l⟩:=c
  simp only [Cf.cells] at hl ⊢
  refine zK Tryd.tab Tryd.mixed Tryd.func26 rfl rfl Tryd.ntmps26 (by simp) (by simp) fun Q hr hn=>?_
  repeat' first|(refine hK _ ?_;clear hK)|(refine hK _ _ ?_;clear hK)|(clear hK;refine hK _ ?_;clear hK)|(clear hK;clear hK;refine hK _ ?_;clear hK)|(clear hK;clear hK;clear hK;refine hK _ ?_;clear hK)|(clear hK;clear hK;clear hK;clear hK;refine hK _ ?_;clear hK)|(refine zI fun K hK=>?_)|((first | refine zG ?_ | refine zN rfl (by kernel_rfl) ?_ | refine zM ?_ | refine zJ (by kernel_rfl) ?_);simp only [xC,xB,strip])|((first | refine wIs fun K hK=>?_ | refine wOs fun K hK=>?_ | refine wQs fun K hK=>?_ | refine zT ?_ | refine zU ?_ | refine zV ?_ | refine zL ?_);simp)|(refine wIn ?_;refine And.intro (by kernel_rfl) ?_;try simp only [zX])|(first | refine zQ ?_ | refine zS ?_)|((first | refine zH ?_ | refine zO ?_ | refine zP ?_);try simp)|((first | refine zR ?_ | refine wOn ?_ | refine wQn ?_);try simp only [zX])
  refine wLoop (fun N st=>∃ k,k + N = l.length ∧ st.s 1 = .ptr 1 0 ∧ st.b 1 = some (.box 26 [.p (I ep),.p (I n),.p (I kind),.p (.sl 4 (mbs l))]) ∧ st.s 6 = .p (.sl 4 (mbs l)) ∧ st.s 7 = .p (I l.length) ∧ st.s 8 = .p (I k) ∧ xE kind (l.drop k) = xE kind l) l.length ⟨0,by simp⟩ fun K N st hL ⟨k,hk,h1,b1,h6,h7,h8,hi⟩=>?_
  by_cases hlt : k < l.length
  · have hw := wrapS k _ hlt (by omega)
    rw [List.drop_eq_getElem_cons hlt] at hi
    simp only [xE,List.any_cons] at hi
    by_cases g1 : l[k].r = 1
    · by_cases g2 : kind = 1
      · repeat' first | (refine hK _ ?_; clear hK) | (refine hK _ _ ?_; clear hK) | (clear hK; refine hK _ ?_; clear hK) | (clear hK; clear hK; refine hK _ ?_; clear hK) | (clear hK; clear hK; clear hK; refine hK _ ?_; clear hK) | (clear hK; clear hK; clear hK; clear hK; refine hK _ ?_; clear hK) | (refine zI fun K hK => ?_) | ((first | refine zG ?_ | refine zN rfl (by kernel_rfl) ?_ | refine zM ?_ | refine zJ (by kernel_rfl) ?_); simp only [xC, xB, strip]) | ((first | refine wIs fun K hK => ?_ | refine wOs fun K hK => ?_ | refine wQs fun K hK => ?_ | refine zT ?_ | refine zU ?_ | refine zV ?_ | refine zL ?_); simp [h1, b1, h6, h7, h8, hlt, hw, g1, g2]) | (refine wIn ?_; refine And.intro (by kernel_rfl) ?_; try simp only [zX]) | (first | refine zQ ?_ | refine zS ?_) | ((first | refine zH ?_ | refine zO ?_ | refine zP ?_); try simp) | ((first | refine zR ?_ | refine wOn ?_ | refine wQn ?_); try simp only [zX])
        all_goals apply hr
        all_goals simp [Tryd.f26]
        all_goals simp [carrier,g1,g2] at hi
        all_goals simp [xE,carrier,g2]
        all_goals exact hi
      · by_cases g3 : 0 < l[k].w
        · repeat' first | (refine hK _ ?_; clear hK) | (refine hK _ _ ?_; clear hK) | (clear hK; refine hK _ ?_; clear hK) | (clear hK; clear hK; refine hK _ ?_; clear hK) | (clear hK; clear hK; clear hK; refine hK _ ?_; clear hK) | (clear hK; clear hK; clear hK; clear hK; refine hK _ ?_; clear hK) | (refine zI fun K hK => ?_) | ((first | refine zG ?_ | refine zN rfl (by kernel_rfl) ?_ | refine zM ?_ | refine zJ (by kernel_rfl) ?_); simp only [xC, xB, strip]) | ((first | refine wIs fun K hK => ?_ | refine wOs fun K hK => ?_ | refine wQs fun K hK => ?_ | refine zT ?_ | refine zU ?_ | refine zV ?_ | refine zL ?_); simp [h1, b1, h6, h7, h8, hlt, hw, g1, g2, g3]) | (refine wIn ?_; refine And.intro (by kernel_rfl) ?_; try simp only [zX]) | (first | refine zQ ?_ | refine zS ?_) | ((first | refine zH ?_ | refine zO ?_ | refine zP ?_); try simp) | ((first | refine zR ?_ | refine wOn ?_ | refine wQn ?_); try simp only [zX])
          all_goals apply hr
          all_goals simp [Tryd.f26]
          all_goals simp [carrier,g1,g2,g3] at hi
          all_goals simp [xE,carrier,g2]
          all_goals exact hi
        · repeat' first | (refine hK _ ?_; clear hK) | (refine hK _ _ ?_; clear hK) | (clear hK; refine hK _ ?_; clear hK) | (clear hK; clear hK; refine hK _ ?_; clear hK) | (clear hK; clear hK; clear hK; refine hK _ ?_; clear hK) | (clear hK; clear hK; clear hK; clear hK; refine hK _ ?_; clear hK) | (refine zI fun K hK => ?_) | ((first | refine zG ?_ | refine zN rfl (by kernel_rfl) ?_ | refine zM ?_ | refine zJ (by kernel_rfl) ?_); simp only [xC, xB, strip]) | ((first | refine wIs fun K hK => ?_ | refine wOs fun K hK => ?_ | refine wQs fun K hK => ?_ | refine zT ?_ | refine zU ?_ | refine zV ?_ | refine zL ?_); simp [h1, b1, h6, h7, h8, hlt, hw, g1, g2, g3]) | (refine wIn ?_; refine And.intro (by kernel_rfl) ?_; try simp only [zX]) | (first | refine zQ ?_ | refine zS ?_) | ((first | refine zH ?_ | refine zO ?_ | refine zP ?_); try simp) | ((first | refine zR ?_ | refine wOn ?_ | refine wQn ?_); try simp only [zX])
          refine hL _ (N - 1) (by omega) ⟨k + 1,by omega,?_⟩
          simp [h1,b1,h6,h7,hw]
          simp [xE,← hi,carrier,g1,g2,g3]
    · repeat' first | (refine hK _ ?_; clear hK) | (refine hK _ _ ?_; clear hK) | (clear hK; refine hK _ ?_; clear hK) | (clear hK; clear hK; refine hK _ ?_; clear hK) | (clear hK; clear hK; clear hK; refine hK _ ?_; clear hK) | (clear hK; clear hK; clear hK; clear hK; refine hK _ ?_; clear hK) | (refine zI fun K hK => ?_) | ((first | refine zG ?_ | refine zN rfl (by kernel_rfl) ?_ | refine zM ?_ | refine zJ (by kernel_rfl) ?_); simp only [xC, xB, strip]) | ((first | refine wIs fun K hK => ?_ | refine wOs fun K hK => ?_ | refine wQs fun K hK => ?_ | refine zT ?_ | refine zU ?_ | refine zV ?_ | refine zL ?_); simp [h1, b1, h6, h7, h8, hlt, hw, g1]) | (refine wIn ?_; refine And.intro (by kernel_rfl) ?_; try simp only [zX]) | (first | refine zQ ?_ | refine zS ?_) | ((first | refine zH ?_ | refine zO ?_ | refine zP ?_); try simp) | ((first | refine zR ?_ | refine wOn ?_ | refine wQn ?_); try simp only [zX])
      refine hL _ (N - 1) (by omega) ⟨k + 1,by omega,?_⟩
      simp [h1,b1,h6,h7,hw]
      simp [xE,← hi,carrier,g1]
  · rw [List.drop_of_length_le (by omega)] at hi
    repeat' first|(refine hK _ ?_;clear hK)|(refine hK _ _ ?_;clear hK)|(clear hK;refine hK _ ?_;clear hK)|(clear hK;clear hK;refine hK _ ?_;clear hK)|(clear hK;clear hK;clear hK;refine hK _ ?_;clear hK)|(clear hK;clear hK;clear hK;clear hK;refine hK _ ?_;clear hK)|(refine zI fun K hK=>?_)|((first | refine zG ?_ | refine zN rfl (by kernel_rfl) ?_ | refine zM ?_ | refine zJ (by kernel_rfl) ?_);simp only [xC,xB,strip])|((first | refine wIs fun K hK=>?_ | refine wOs fun K hK=>?_ | refine wQs fun K hK=>?_ | refine zT ?_ | refine zU ?_ | refine zV ?_ | refine zL ?_);simp [h1,b1,h6,h7,h8,hlt])|(refine wIn ?_;refine And.intro (by kernel_rfl) ?_;try simp only [zX])|(first | refine zQ ?_ | refine zS ?_)|((first | refine zH ?_ | refine zO ?_ | refine zP ?_);try simp)|((first | refine zR ?_ | refine wOn ?_ | refine wQn ?_);try simp only [zX])
    apply hr
    rw [← hi]
    simp [Tryd.f26]
    rfl
def prevI (l : List Mb) (k : Nat) : Int := if h : 0 < k ∧ k ≤ l.length then (l[k - 1]'(by omega)).i else -1
theorem prevI_succ (l : List Mb) (k : Nat) (h : k < l.length) : prevI l (k + 1) = l[k].i := by
  unfold prevI;rw [dif_pos ⟨by omega,by omega⟩];rfl
theorem prevI_pos (l : List Mb) (k : Nat) (h0 : 0 < k) (h : k < l.length) : prevI l k = (l[k - 1]'(by omega)).i := by
  unfold prevI;rw [dif_pos ⟨by omega,by omega⟩]
theorem prevI_zero (l : List Mb) : prevI l 0 = -1 := by unfold prevI; rw [dif_neg (by omega)]
set_option maxHeartbeats 8000000 in
theorem check_con (c : Cf) (hl : c.ms.length ≤ 1000000) : zD Tryd.prog 11 [.p (.agg c.cells)] (.p (I (check c))) := by
  have cc:=carried_con c hl
  obtain ⟨ep,n,kind,l⟩:=c
  simp only [Cf.cells,check,ranged] at hl cc ⊢
  have c1:=within_con ep 1099511627776
  have c2:=within_con n 1099511627776
  by_cases g1 : kind < 1
  · have g1' : ¬ 1 ≤ kind := by omega
    refine zK Tryd.tab Tryd.mixed Tryd.func11 rfl rfl Tryd.ntmps11 (by simp) (by simp) fun Q hr hn=>?_
    repeat' first|(refine hK _ ?_;clear hK)|(refine hK _ _ ?_;clear hK)|(clear hK;refine hK _ ?_;clear hK)|(clear hK;clear hK;refine hK _ ?_;clear hK)|(clear hK;clear hK;clear hK;refine hK _ ?_;clear hK)|(clear hK;clear hK;clear hK;clear hK;refine hK _ ?_;clear hK)|(refine zI fun K hK=>?_)|((first | refine zG ?_ | refine zN rfl (by kernel_rfl) ?_ | refine zM ?_ | refine zJ (by kernel_rfl) ?_);simp only [xC,xB,strip])|((first | refine wIs fun K hK=>?_ | refine wOs fun K hK=>?_ | refine wQs fun K hK=>?_ | refine zT ?_ | refine zU ?_ | refine zV ?_ | refine zL ?_);simp [g1])|(refine wIn ?_;refine And.intro (by kernel_rfl) ?_;try simp only [zX])|(first | refine zQ ?_ | refine zS ?_)|((first | refine zH ?_ | refine zO ?_ | refine zP ?_);try simp)|((first | refine zR ?_ | refine wOn ?_ | refine wQn ?_);try simp only [zX])
    all_goals apply hr
    all_goals simp [Tryd.f11,g1']
  by_cases g2 : 3 < kind
  · have g2' : ¬ kind ≤ 3 := by omega
    refine zK Tryd.tab Tryd.mixed Tryd.func11 rfl rfl Tryd.ntmps11 (by simp) (by simp) fun Q hr hn=>?_
    repeat' first|(refine hK _ ?_;clear hK)|(refine hK _ _ ?_;clear hK)|(clear hK;refine hK _ ?_;clear hK)|(clear hK;clear hK;refine hK _ ?_;clear hK)|(clear hK;clear hK;clear hK;refine hK _ ?_;clear hK)|(clear hK;clear hK;clear hK;clear hK;refine hK _ ?_;clear hK)|(refine zI fun K hK=>?_)|((first | refine zG ?_ | refine zN rfl (by kernel_rfl) ?_ | refine zM ?_ | refine zJ (by kernel_rfl) ?_);simp only [xC,xB,strip])|((first | refine wIs fun K hK=>?_ | refine wOs fun K hK=>?_ | refine wQs fun K hK=>?_ | refine zT ?_ | refine zU ?_ | refine zV ?_ | refine zL ?_);simp [g1,g2])|(refine wIn ?_;refine And.intro (by kernel_rfl) ?_;try simp only [zX])|(first | refine zQ ?_ | refine zS ?_)|((first | refine zH ?_ | refine zO ?_ | refine zP ?_);try simp)|((first | refine zR ?_ | refine wOn ?_ | refine wQn ?_);try simp only [zX])
    all_goals apply hr
    all_goals simp [Tryd.f11,g2']
  by_cases g3 : 0 ≤ ep ∧ ep ≤ 1099511627776
  rotate_left
  · rw [decide_eq_false g3] at c1
    refine zK Tryd.tab Tryd.mixed Tryd.func11 rfl rfl Tryd.ntmps11 (by simp) (by simp) fun Q hr hn=>?_
    repeat' first|(refine hK _ ?_;clear hK)|(refine hK _ _ ?_;clear hK)|(clear hK;refine hK _ ?_;clear hK)|(clear hK;clear hK;refine hK _ ?_;clear hK)|(clear hK;clear hK;clear hK;refine hK _ ?_;clear hK)|(clear hK;clear hK;clear hK;clear hK;refine hK _ ?_;clear hK)|(refine zI fun K hK=>?_)|((first | refine zG ?_ | refine zN rfl (by kernel_rfl) ?_ | refine zM ?_ | refine zJ (by kernel_rfl) ?_);simp only [xC,xB,strip])|((first | refine wIs fun K hK=>?_ | refine wOs fun K hK=>?_ | refine wQs fun K hK=>?_ | refine zT ?_ | refine zU ?_ | refine zV ?_ | refine zL ?_);simp [g1,g2])|(refine wIn ?_;refine And.intro (by kernel_rfl) ?_;try simp only [zX])|(first | refine zQ ?_ | refine zS ?_)|((first | refine zH ?_ | refine zO ?_ | refine zP ?_);try simp)|((first | refine zR ?_ | refine wOn ?_ | refine wQn ?_);try simp only [zX])|(refine zZ.pure (c1) rfl ?_)|(refine zZ.lent (c1) rfl ?_)|(refine zW.pure (c1) rfl ?_)|(refine zW.lent (c1) rfl ?_)|(refine zZ.own (c1) ?_)|(refine zY.pure (c1) rfl ?_)|(refine zY.lent (c1) rfl ?_)|(refine zY.own (c1) ?_)
    all_goals apply hr
    all_goals simp [Tryd.f11,g3]
  rw [decide_eq_true g3] at c1
  by_cases g4 : 0 ≤ n ∧ n ≤ 1099511627776
  rotate_left
  · rw [decide_eq_false g4] at c2
    refine zK Tryd.tab Tryd.mixed Tryd.func11 rfl rfl Tryd.ntmps11 (by simp) (by simp) fun Q hr hn=>?_
    repeat' first|(refine hK _ ?_;clear hK)|(refine hK _ _ ?_;clear hK)|(clear hK;refine hK _ ?_;clear hK)|(clear hK;clear hK;refine hK _ ?_;clear hK)|(clear hK;clear hK;clear hK;refine hK _ ?_;clear hK)|(clear hK;clear hK;clear hK;clear hK;refine hK _ ?_;clear hK)|(refine zI fun K hK=>?_)|((first | refine zG ?_ | refine zN rfl (by kernel_rfl) ?_ | refine zM ?_ | refine zJ (by kernel_rfl) ?_);simp only [xC,xB,strip])|((first | refine wIs fun K hK=>?_ | refine wOs fun K hK=>?_ | refine wQs fun K hK=>?_ | refine zT ?_ | refine zU ?_ | refine zV ?_ | refine zL ?_);simp [g1,g2])|(refine wIn ?_;refine And.intro (by kernel_rfl) ?_;try simp only [zX])|(first | refine zQ ?_ | refine zS ?_)|((first | refine zH ?_ | refine zO ?_ | refine zP ?_);try simp)|((first | refine zR ?_ | refine wOn ?_ | refine wQn ?_);try simp only [zX])|(refine zZ.pure (c1) rfl ?_)|(refine zZ.lent (c1) rfl ?_)|(refine zW.pure (c1) rfl ?_)|(refine zW.lent (c1) rfl ?_)|(refine zZ.own (c1) ?_)|(refine zY.pure (c1) rfl ?_)|(refine zY.lent (c1) rfl ?_)|(refine zY.own (c1) ?_)|(refine zZ.pure (c2) rfl ?_)|(refine zZ.lent (c2) rfl ?_)|(refine zW.pure (c2) rfl ?_)|(refine zW.lent (c2) rfl ?_)|(refine zZ.own (c2) ?_)|(refine zY.pure (c2) rfl ?_)|(refine zY.lent (c2) rfl ?_)|(refine zY.own (c2) ?_)
    all_goals apply hr
    all_goals simp [Tryd.f11,g4]
  rw [decide_eq_true g4] at c2
  rw [if_pos ⟨⟨by omega,by omega⟩,g3,g4⟩]
  refine zK Tryd.tab Tryd.mixed Tryd.func11 rfl rfl Tryd.ntmps11 (by simp) (by simp) fun Q hr hn=>?_
  repeat' first|(refine hK _ ?_;clear hK)|(refine hK _ _ ?_;clear hK)|(clear hK;refine hK _ ?_;clear hK)|(clear hK;clear hK;refine hK _ ?_;clear hK)|(clear hK;clear hK;clear hK;refine hK _ ?_;clear hK)|(clear hK;clear hK;clear hK;clear hK;refine hK _ ?_;clear hK)|(refine zI fun K hK=>?_)|((first | refine zG ?_ | refine zN rfl (by kernel_rfl) ?_ | refine zM ?_ | refine zJ (by kernel_rfl) ?_);simp only [xC,xB,strip])|((first | refine wIs fun K hK=>?_ | refine wOs fun K hK=>?_ | refine wQs fun K hK=>?_ | refine zT ?_ | refine zU ?_ | refine zV ?_ | refine zL ?_);simp [g1,g2])|(refine wIn ?_;refine And.intro (by kernel_rfl) ?_;try simp only [zX])|(first | refine zQ ?_ | refine zS ?_)|((first | refine zH ?_ | refine zO ?_ | refine zP ?_);try simp)|((first | refine zR ?_ | refine wOn ?_ | refine wQn ?_);try simp only [zX])|(refine zZ.pure (c1) rfl ?_)|(refine zZ.lent (c1) rfl ?_)|(refine zW.pure (c1) rfl ?_)|(refine zW.lent (c1) rfl ?_)|(refine zZ.own (c1) ?_)|(refine zY.pure (c1) rfl ?_)|(refine zY.lent (c1) rfl ?_)|(refine zY.own (c1) ?_)|(refine zZ.pure (c2) rfl ?_)|(refine zZ.lent (c2) rfl ?_)|(refine zW.pure (c2) rfl ?_)|(refine zW.lent (c2) rfl ?_)|(refine zZ.own (c2) ?_)|(refine zY.pure (c2) rfl ?_)|(refine zY.lent (c2) rfl ?_)|(refine zY.own (c2) ?_)
  refine wLoop (fun N st=>∃ k,k + N = l.length ∧ st.s 1 = .ptr 1 0 ∧ st.b 1 = some (.box 26 [.p (I ep),.p (I n),.p (I kind),.p (.sl 4 (mbs l))]) ∧ st.s 28 = .p (.sl 4 (mbs l)) ∧ st.s 29 = .p (I l.length) ∧ st.s 30 = .p (I k) ∧ fine (prevI l k) (l.drop k) = fine (-1) l) l.length ⟨0,by simp [prevI_zero]⟩ fun K N st hL ⟨k,hk,h1,b1,h28,h29,h30,hi⟩=>?_
  by_cases hlt : k < l.length
  · have hw := wrapS k _ hlt (by omega)
    rw [List.drop_eq_getElem_cons hlt,fine] at hi
    have cr:=rightM_con l[k]
    simp only [Mb.cells] at cr
    by_cases o1 : okM l[k]
    · rw [decide_eq_true o1] at cr
      by_cases o2 : 0 < k
      · have o2' : (0 : Int) < k := by omega
        have hw1 : IntKind.i64.wrap ((k : Int) - 1) = ((k - 1 : Nat) : Int):=by rw [yI] <;> omega
        have hk1 : k - 1 < l.length:=by omega
        rw [prevI_pos l k o2 hlt] at hi
        by_cases o3 : l[k].i ≤ l[k - 1].i
        · repeat' first | (refine hK _ ?_; clear hK) | (refine hK _ _ ?_; clear hK) | (clear hK; refine hK _ ?_; clear hK) | (clear hK; clear hK; refine hK _ ?_; clear hK) | (clear hK; clear hK; clear hK; refine hK _ ?_; clear hK) | (clear hK; clear hK; clear hK; clear hK; refine hK _ ?_; clear hK) | (refine zI fun K hK => ?_) | ((first | refine zG ?_ | refine zN rfl (by kernel_rfl) ?_ | refine zM ?_ | refine zJ (by kernel_rfl) ?_); simp only [xC, xB, strip]) | ((first | refine wIs fun K hK => ?_ | refine wOs fun K hK => ?_ | refine wQs fun K hK => ?_ | refine zT ?_ | refine zU ?_ | refine zV ?_ | refine zL ?_); simp [h1, b1, h28, h29, h30, hlt, hw, o2, o2', hw1, hk1, o3]) | (refine wIn ?_; refine And.intro (by kernel_rfl) ?_; try simp only [zX]) | (first | refine zQ ?_ | refine zS ?_) | ((first | refine zH ?_ | refine zO ?_ | refine zP ?_); try simp) | ((first | refine zR ?_ | refine wOn ?_ | refine wQn ?_); try simp only [zX]) | (refine zZ.pure (cr) rfl ?_) | (refine zZ.lent (cr) rfl ?_) | (refine zW.pure (cr) rfl ?_) | (refine zW.lent (cr) rfl ?_) | (refine zZ.own (cr) ?_) | (refine zY.pure (cr) rfl ?_) | (refine zY.lent (cr) rfl ?_) | (refine zY.own (cr) ?_)
          all_goals apply hr
          all_goals simp [Tryd.f11]
          all_goals rw [decide_eq_false (by omega)] at hi
          all_goals simp [← hi]
        · repeat' first | (refine hK _ ?_; clear hK) | (refine hK _ _ ?_; clear hK) | (clear hK; refine hK _ ?_; clear hK) | (clear hK; clear hK; refine hK _ ?_; clear hK) | (clear hK; clear hK; clear hK; refine hK _ ?_; clear hK) | (clear hK; clear hK; clear hK; clear hK; refine hK _ ?_; clear hK) | (refine zI fun K hK => ?_) | ((first | refine zG ?_ | refine zN rfl (by kernel_rfl) ?_ | refine zM ?_ | refine zJ (by kernel_rfl) ?_); simp only [xC, xB, strip]) | ((first | refine wIs fun K hK => ?_ | refine wOs fun K hK => ?_ | refine wQs fun K hK => ?_ | refine zT ?_ | refine zU ?_ | refine zV ?_ | refine zL ?_); simp [h1, b1, h28, h29, h30, hlt, hw, o2, o2', hw1, hk1, o3]) | (refine wIn ?_; refine And.intro (by kernel_rfl) ?_; try simp only [zX]) | (first | refine zQ ?_ | refine zS ?_) | ((first | refine zH ?_ | refine zO ?_ | refine zP ?_); try simp) | ((first | refine zR ?_ | refine wOn ?_ | refine wQn ?_); try simp only [zX]) | (refine zZ.pure (cr) rfl ?_) | (refine zZ.lent (cr) rfl ?_) | (refine zW.pure (cr) rfl ?_) | (refine zW.lent (cr) rfl ?_) | (refine zZ.own (cr) ?_) | (refine zY.pure (cr) rfl ?_) | (refine zY.lent (cr) rfl ?_) | (refine zY.own (cr) ?_)
          refine hL _ (N - 1) (by omega) ⟨k + 1,by omega,?_⟩
          simp [h1,b1,h28,h29,hw]
          rw [decide_eq_true ⟨o1,by omega⟩,Bool.true_and] at hi
          rw [prevI_succ l k hlt];exact hi
      · obtain rfl : k = 0 := by omega
        simp at h30 hw
        repeat' first|(refine hK _ ?_;clear hK)|(refine hK _ _ ?_;clear hK)|(clear hK;refine hK _ ?_;clear hK)|(clear hK;clear hK;refine hK _ ?_;clear hK)|(clear hK;clear hK;clear hK;refine hK _ ?_;clear hK)|(clear hK;clear hK;clear hK;clear hK;refine hK _ ?_;clear hK)|(refine zI fun K hK=>?_)|((first | refine zG ?_ | refine zN rfl (by kernel_rfl) ?_ | refine zM ?_ | refine zJ (by kernel_rfl) ?_);simp only [xC,xB,strip])|((first | refine wIs fun K hK=>?_ | refine wOs fun K hK=>?_ | refine wQs fun K hK=>?_ | refine zT ?_ | refine zU ?_ | refine zV ?_ | refine zL ?_);simp [h1,b1,h28,h29,h30,hlt,hw])|(refine wIn ?_;refine And.intro (by kernel_rfl) ?_;try simp only [zX])|(first | refine zQ ?_ | refine zS ?_)|((first | refine zH ?_ | refine zO ?_ | refine zP ?_);try simp)|((first | refine zR ?_ | refine wOn ?_ | refine wQn ?_);try simp only [zX])|(refine zZ.pure (cr) rfl ?_)|(refine zZ.lent (cr) rfl ?_)|(refine zW.pure (cr) rfl ?_)|(refine zW.lent (cr) rfl ?_)|(refine zZ.own (cr) ?_)|(refine zY.pure (cr) rfl ?_)|(refine zY.lent (cr) rfl ?_)|(refine zY.own (cr) ?_)
        refine hL _ (N - 1) (by omega) ⟨1,by omega,?_⟩
        simp [h1,b1,h28,h29,hw]
        have:=o1.1.1
        rw [prevI_zero,decide_eq_true ⟨o1,by omega⟩,Bool.true_and] at hi
        rw [show (1 : Nat) = 0 + 1 from rfl,prevI_succ l 0 hlt,← List.drop_one];exact hi
    · rw [decide_eq_false o1] at cr
      repeat' first|(refine hK _ ?_;clear hK)|(refine hK _ _ ?_;clear hK)|(clear hK;refine hK _ ?_;clear hK)|(clear hK;clear hK;refine hK _ ?_;clear hK)|(clear hK;clear hK;clear hK;refine hK _ ?_;clear hK)|(clear hK;clear hK;clear hK;clear hK;refine hK _ ?_;clear hK)|(refine zI fun K hK=>?_)|((first | refine zG ?_ | refine zN rfl (by kernel_rfl) ?_ | refine zM ?_ | refine zJ (by kernel_rfl) ?_);simp only [xC,xB,strip])|((first | refine wIs fun K hK=>?_ | refine wOs fun K hK=>?_ | refine wQs fun K hK=>?_ | refine zT ?_ | refine zU ?_ | refine zV ?_ | refine zL ?_);simp [h1,b1,h28,h29,h30,hlt,hw])|(refine wIn ?_;refine And.intro (by kernel_rfl) ?_;try simp only [zX])|(first | refine zQ ?_ | refine zS ?_)|((first | refine zH ?_ | refine zO ?_ | refine zP ?_);try simp)|((first | refine zR ?_ | refine wOn ?_ | refine wQn ?_);try simp only [zX])|(refine zZ.pure (cr) rfl ?_)|(refine zZ.lent (cr) rfl ?_)|(refine zW.pure (cr) rfl ?_)|(refine zW.lent (cr) rfl ?_)|(refine zZ.own (cr) ?_)|(refine zY.pure (cr) rfl ?_)|(refine zY.lent (cr) rfl ?_)|(refine zY.own (cr) ?_)
      all_goals apply hr
      all_goals simp [Tryd.f11]
      all_goals simp [← hi,o1]
  · rw [List.drop_of_length_le (by omega)] at hi
    have hi' : fine (-1) l = true:=hi ▸ rfl
    by_cases g5 : xE kind l = true
    · rw [g5] at cc
      repeat' first|(refine hK _ ?_;clear hK)|(refine hK _ _ ?_;clear hK)|(clear hK;refine hK _ ?_;clear hK)|(clear hK;clear hK;refine hK _ ?_;clear hK)|(clear hK;clear hK;clear hK;refine hK _ ?_;clear hK)|(clear hK;clear hK;clear hK;clear hK;refine hK _ ?_;clear hK)|(refine zI fun K hK=>?_)|((first | refine zG ?_ | refine zN rfl (by kernel_rfl) ?_ | refine zM ?_ | refine zJ (by kernel_rfl) ?_);simp only [xC,xB,strip])|((first | refine wIs fun K hK=>?_ | refine wOs fun K hK=>?_ | refine wQs fun K hK=>?_ | refine zT ?_ | refine zU ?_ | refine zV ?_ | refine zL ?_);simp [h1,b1,h28,h29,h30,hlt])|(refine wIn ?_;refine And.intro (by kernel_rfl) ?_;try simp only [zX])|(first | refine zQ ?_ | refine zS ?_)|((first | refine zH ?_ | refine zO ?_ | refine zP ?_);try simp)|((first | refine zR ?_ | refine wOn ?_ | refine wQn ?_);try simp only [zX])|(refine zZ.pure (cc) rfl ?_)|(refine zZ.lent (cc) rfl ?_)|(refine zW.pure (cc) rfl ?_)|(refine zW.lent (cc) rfl ?_)|(refine zZ.own (cc) ?_)|(refine zY.pure (cc) rfl ?_)|(refine zY.lent (cc) rfl ?_)|(refine zY.own (cc) ?_)
      all_goals apply hr
      all_goals simp [Tryd.f11,hi',g5]
    · rw [Bool.not_eq_true] at g5
      rw [g5] at cc
      repeat' first|(refine hK _ ?_;clear hK)|(refine hK _ _ ?_;clear hK)|(clear hK;refine hK _ ?_;clear hK)|(clear hK;clear hK;refine hK _ ?_;clear hK)|(clear hK;clear hK;clear hK;refine hK _ ?_;clear hK)|(clear hK;clear hK;clear hK;clear hK;refine hK _ ?_;clear hK)|(refine zI fun K hK=>?_)|((first | refine zG ?_ | refine zN rfl (by kernel_rfl) ?_ | refine zM ?_ | refine zJ (by kernel_rfl) ?_);simp only [xC,xB,strip])|((first | refine wIs fun K hK=>?_ | refine wOs fun K hK=>?_ | refine wQs fun K hK=>?_ | refine zT ?_ | refine zU ?_ | refine zV ?_ | refine zL ?_);simp [h1,b1,h28,h29,h30,hlt])|(refine wIn ?_;refine And.intro (by kernel_rfl) ?_;try simp only [zX])|(first | refine zQ ?_ | refine zS ?_)|((first | refine zH ?_ | refine zO ?_ | refine zP ?_);try simp)|((first | refine zR ?_ | refine wOn ?_ | refine wQn ?_);try simp only [zX])|(refine zZ.pure (cc) rfl ?_)|(refine zZ.lent (cc) rfl ?_)|(refine zW.pure (cc) rfl ?_)|(refine zW.lent (cc) rfl ?_)|(refine zZ.own (cc) ?_)|(refine zY.pure (cc) rfl ?_)|(refine zY.lent (cc) rfl ?_)|(refine zY.own (cc) ?_)
      all_goals apply hr
      all_goals simp [Tryd.f11,hi',g5]
/- The document's Check, and who votes, who is found. -/
def ids (l : List Mb) (r : Int) : List Int := (l.filter fun m => decide (m.r = r)).map Mb.i
theorem ids_snoc (l : List Mb) (r : Int) (k : Nat) (h : k < l.length) : ids (l.take (k + 1)) r = if l[k].r = r then ids (l.take k) r ++ [l[k].i] else ids (l.take k) r := by
  rw [take_snoc _ k h];unfold ids
  rw [List.filter_append,List.map_append]
  by_cases g : l[k].r = r
  · rw [if_pos g];simp only [List.filter,g,decide_true,xC,xB]
  · rw [if_neg g];simp only [List.filter,g,decide_false,xB,List.append_nil]
theorem ids_len (l : List Mb) (r : Int) : (ids l r).length ≤ l.length := by simp [ids, List.length_filter_le]
theorem ids_con (c : Cf) (r : Int) (hl : c.ms.length ≤ 1000000) : zD Tryd.prog 28 [.p (.agg c.cells), .p (I r)] (.p (.sl 1 (ints (ids c.ms r)))) := by
  obtain ⟨ep,n,kind,l⟩:=c
  simp only [Cf.cells] at hl ⊢
  refine zK Tryd.tab Tryd.mixed Tryd.func28 rfl rfl Tryd.ntmps28 (by simp) (by simp) fun Q hr hn=>?_
  repeat' first|(refine hK _ ?_;clear hK)|(refine hK _ _ ?_;clear hK)|(clear hK;refine hK _ ?_;clear hK)|(clear hK;clear hK;refine hK _ ?_;clear hK)|(clear hK;clear hK;clear hK;refine hK _ ?_;clear hK)|(clear hK;clear hK;clear hK;clear hK;refine hK _ ?_;clear hK)|(refine zI fun K hK=>?_)|((first | refine zG ?_ | refine zN rfl (by kernel_rfl) ?_ | refine zM ?_ | refine zJ (by kernel_rfl) ?_);simp only [xC,xB,strip])|((first | refine wIs fun K hK=>?_ | refine wOs fun K hK=>?_ | refine wQs fun K hK=>?_ | refine zT ?_ | refine zU ?_ | refine zV ?_ | refine zL ?_);simp)|(refine wIn ?_;refine And.intro (by kernel_rfl) ?_;try simp only [zX])|(first | refine zQ ?_ | refine zS ?_)|((first | refine zH ?_ | refine zO ?_ | refine zP ?_);try simp)|((first | refine zR ?_ | refine wOn ?_ | refine wQn ?_);try simp only [zX])
  refine wLoopG [.row 5 3 1] (fun N st => ∃ k, k + N = l.length ∧ st.s 2 = .ptr 2 0 ∧ st.b 2 = some (.box 26 [.p (I ep), .p (I n), .p (I kind), .p (.sl 4 (mbs l))]) ∧ st.s 1 = .p (I r) ∧ st.s 5 = .row 5 ∧ st.s 9 = .p (.sl 4 (mbs l)) ∧ st.s 10 = .p (I l.length) ∧ st.s 11 = .p (I k) ∧
    st.b 5 = some (.row 3 1 (ints (ids (l.take k) r)))) l.length ⟨0,by simp [ids,ints]⟩ fun K N st hL ⟨k,hk,h2,b2,h1,h5,h9,h10,h11,b5⟩=>?_
  by_cases hlt : k < l.length
  · have hw := wrapS k _ hlt (by omega)
    have hln : (ids (l.take k) r).length ≤ k:=Nat.le_trans (ids_len _ _) (by simp;omega)
    by_cases g1 : l[k].r = r
    · repeat' first | (refine And.intro (by omega) ?_) | (refine hK _ ?_; clear hK) | (refine hK _ _ ?_; clear hK) | (clear hK; refine hK _ ?_; clear hK) | (clear hK; clear hK; refine hK _ ?_; clear hK) | (clear hK; clear hK; clear hK; refine hK _ ?_; clear hK) | (clear hK; clear hK; clear hK; clear hK; refine hK _ ?_; clear hK) | (refine zI fun K hK => ?_) | ((first | refine zG ?_ | refine zN rfl (by kernel_rfl) ?_ | refine zM ?_ | refine zJ (by kernel_rfl) ?_); simp only [xC, xB, strip]) | ((first | refine wIs fun K hK => ?_ | refine wOs fun K hK => ?_ | refine wQs fun K hK => ?_ | refine zT ?_ | refine zU ?_ | refine zV ?_ | refine zL ?_); simp [h2, b2, h1, h5, h9, h10, h11, b5, hlt, hw, g1]) | (refine wIn ?_; refine And.intro (by kernel_rfl) ?_; try simp only [zX]) | (first | refine zQ ?_ | refine zS ?_) | ((first | refine zH ?_ | refine zO ?_ | refine zP ?_); try simp) | ((first | refine zR ?_ | refine wOn ?_ | refine wQn ?_); try simp only [zX])
      refine hL _ (N - 1) (by omega) ⟨k + 1,by omega,?_⟩
      simp [h2,b2,h1,h5,h9,h10,hw,b5]
      rw [ints_snoc,ids_snoc l r k hlt,if_pos g1]
    · repeat' first | (refine hK _ ?_; clear hK) | (refine hK _ _ ?_; clear hK) | (clear hK; refine hK _ ?_; clear hK) | (clear hK; clear hK; refine hK _ ?_; clear hK) | (clear hK; clear hK; clear hK; refine hK _ ?_; clear hK) | (clear hK; clear hK; clear hK; clear hK; refine hK _ ?_; clear hK) | (refine zI fun K hK => ?_) | ((first | refine zG ?_ | refine zN rfl (by kernel_rfl) ?_ | refine zM ?_ | refine zJ (by kernel_rfl) ?_); simp only [xC, xB, strip]) | ((first | refine wIs fun K hK => ?_ | refine wOs fun K hK => ?_ | refine wQs fun K hK => ?_ | refine zT ?_ | refine zU ?_ | refine zV ?_ | refine zL ?_); simp [h2, b2, h1, h5, h9, h10, h11, b5, hlt, hw, g1]) | (refine wIn ?_; refine And.intro (by kernel_rfl) ?_; try simp only [zX]) | (first | refine zQ ?_ | refine zS ?_) | ((first | refine zH ?_ | refine zO ?_ | refine zP ?_); try simp) | ((first | refine zR ?_ | refine wOn ?_ | refine wQn ?_); try simp only [zX])
      refine hL _ (N - 1) (by omega) ⟨k + 1,by omega,?_⟩
      simp [h2,b2,h1,h5,h9,h10,hw,b5]
      rw [ids_snoc l r k hlt,if_neg g1]
  · repeat' first | (refine hK _ ?_; clear hK) | (refine hK _ _ ?_; clear hK) | (clear hK; refine hK _ ?_; clear hK) | (clear hK; clear hK; refine hK _ ?_; clear hK) | (clear hK; clear hK; clear hK; refine hK _ ?_; clear hK) | (clear hK; clear hK; clear hK; clear hK; refine hK _ ?_; clear hK) | (refine zI fun K hK => ?_) | ((first | refine zG ?_ | refine zN rfl (by kernel_rfl) ?_ | refine zM ?_ | refine zJ (by kernel_rfl) ?_); simp only [xC, xB, strip]) | ((first | refine wIs fun K hK => ?_ | refine wOs fun K hK => ?_ | refine wQs fun K hK => ?_ | refine zT ?_ | refine zU ?_ | refine zV ?_ | refine zL ?_); simp [h2, b2, h1, h5, h9, h10, h11, b5, hlt]) | (refine wIn ?_; refine And.intro (by kernel_rfl) ?_; try simp only [zX]) | (first | refine zQ ?_ | refine zS ?_) | ((first | refine zH ?_ | refine zO ?_ | refine zP ?_); try simp) | ((first | refine zR ?_ | refine wOn ?_ | refine wQn ?_); try simp only [zX])
    apply hr
    rw [List.take_of_length_le (by omega)] at b5
    simp [Tryd.f28,h5,b5]
theorem voters_con (c : Cf) (hl : c.ms.length ≤ 1000000) : zD Tryd.prog 14 [.p (.agg c.cells)] (.p (.sl 1 (ints (ids c.ms 1)))) := by
  have h:=ids_con c 1 hl
  simp only [Cf.cells] at h ⊢
  generalize ids c.ms 1 = z at h
  refine zK Tryd.tab Tryd.mixed Tryd.func14 rfl rfl Tryd.ntmps14 (by simp) (by simp) fun Q hr hn=>?_
  repeat' first|(refine hK _ ?_;clear hK)|(refine hK _ _ ?_;clear hK)|(clear hK;refine hK _ ?_;clear hK)|(clear hK;clear hK;refine hK _ ?_;clear hK)|(clear hK;clear hK;clear hK;refine hK _ ?_;clear hK)|(clear hK;clear hK;clear hK;clear hK;refine hK _ ?_;clear hK)|(refine zI fun K hK=>?_)|((first | refine zG ?_ | refine zN rfl (by kernel_rfl) ?_ | refine zM ?_ | refine zJ (by kernel_rfl) ?_);simp only [xC,xB,strip])|((first | refine wIs fun K hK=>?_ | refine wOs fun K hK=>?_ | refine wQs fun K hK=>?_ | refine zT ?_ | refine zU ?_ | refine zV ?_ | refine zL ?_);simp)|(refine wIn ?_;refine And.intro (by kernel_rfl) ?_;try simp only [zX])|(first | refine zQ ?_ | refine zS ?_)|((first | refine zH ?_ | refine zO ?_ | refine zP ?_);try simp)|((first | refine zR ?_ | refine wOn ?_ | refine wQn ?_);try simp only [zX])|(refine zZ.pure (h) rfl ?_)|(refine zZ.lent (h) rfl ?_)|(refine zW.pure (h) rfl ?_)|(refine zW.lent (h) rfl ?_)|(refine zZ.own (h) ?_)|(refine zY.pure (h) rfl ?_)|(refine zY.lent (h) rfl ?_)|(refine zY.own (h) ?_)
  apply hr
  simp [Tryd.f14]
end Go.Proofs.YtjekjpgccnhobaaDoor
