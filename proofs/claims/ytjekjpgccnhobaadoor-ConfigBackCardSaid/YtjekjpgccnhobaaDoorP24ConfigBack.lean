/- Texts that the proof needs: Ext CF1 QLib QA ZC ZA ZL ZM ZS Shelf Itoa. -/
import Derived.Test.YtjekjpgccnhobaaDoorP19ConfigBack
import Derived.Test.YtjekjpgccnhobaaDoorP23ConfigBack
import Derived.Test.YtjekjpgccnhobaaDoorP15ConfigBack
import Derived.Test.YtjekjpgccnhobaaDoorP22ConfigBack
import Derived.Test.YtjekjpgccnhobaaDoorP16ConfigBack
import Derived.Test.YtjekjpgccnhobaaDoorP14ConfigBack
import Derived.WalkKit
import Derived.Test.YtjekjpgccnhobaaDoorP17ConfigBack
import Derived.Shelf.LaysM
import Derived.Shelf.Strconv.Itoa3
import Derived.Test.YtjekjpgccnhobaaDoorProg
import Derived.Test.YtjekjpgccnhobaaDoorP18ConfigBack
/- The library's functions that the model itself has; what closed calls lean on. -/
namespace Go.Proofs.YtjekjpgccnhobaaDoor
set_option linter.unusedSimpArgs false
set_option linter.unusedVariables false
open Go Go.Av
theorem indexByteString_con (s : ByteArray) (c : Int) : zD Tryd.prog 77 [.p (.v (.string s)), .p (.v (.int .u8 c))] (.p (I (Go.Lib.indexByte s.data.toList c.toNat.toUInt8))) :=
  zD.ext Tryd.func77 (by kernel_rfl) (by kernel_rfl) (by kernel_rfl) (e:=Extern.BytealgIndexByte.indexByte) (by kernel_rfl) [.string s,.int .u8 c] rfl (fun w=>Go.Lib.run_indexByteString s c w)
theorem countString_con (s : ByteArray) (c : Int) : zD Tryd.prog 60 [.p (.v (.string s)), .p (.v (.int .u8 c))] (.p (I (Go.Lib.countByte s.data.toList c.toNat.toUInt8))) :=
  zD.ext Tryd.func60 (by kernel_rfl) (by kernel_rfl) (by kernel_rfl) (e:=_) (by kernel_rfl) [.string s,.int .u8 c] rfl (fun w=>Go.Lib.run_countString s c w)
end Go.Proofs.YtjekjpgccnhobaaDoor
/- Texts: parted at blanks; what one begins with. -/
namespace Go.Proofs.YtjekjpgccnhobaaDoor
set_option linter.unusedSimpArgs false
set_option linter.unusedVariables false
set_option maxRecDepth 100000
open Go Go.Av
attribute [local irreducible] Go.Av.CallK Go.Av.zZ Go.Av.CallQ Go.Av.zW Go.Av.CallR Go.Av.zY Go.Av.Con
def ixs (l : List UInt8) : Nat := l.findIdx (· == 32)
theorem ixs_le (l : List UInt8) : ixs l ≤ l.length := List.findIdx_le_length
theorem indexByte_ixs (l : List UInt8) : Go.Lib.indexByte l 32 = if ixs l = l.length then -1 else (ixs l : Int) := by
  induction l with
  | nil=>rfl
  | cons a r ih =>
    unfold Go.Lib.indexByte ixs
    rw [List.findIdx_cons]
    cases h : a == 32 with
    | true=>simp
    | false =>
      have hix : List.findIdx (· == 32) r = ixs r:=rfl
      simp only [Bool.false_eq_true,if_false,cond_false,hix,List.length_cons]
      rw [ih]
      by_cases g : ixs r = r.length
      · rw [if_pos g,if_pos (by simp),if_pos (by omega)]
      · rw [if_neg g, if_neg (by simp), if_neg (by omega)]
        push_cast;rfl
def spl : List UInt8 → List (List UInt8)
  | []=>[[]]
  | b :: l => if b = 32 then [] :: spl l else match spl l with
    | []=>[[b]]
    | h :: t=>(b :: h) :: t
theorem spl_len (l : List UInt8) : (spl l).length = Go.Lib.countByte l 32 + 1 := by
  induction l with
  | nil=>rfl
  | cons b l ih =>
    unfold spl
    have hc : Go.Lib.countByte (b :: l) 32 = Go.Lib.countByte l 32 + if b = 32 then 1 else 0 := by
      unfold Go.Lib.countByte
      rw [List.count_cons]
      simp
    split
    · rename_i hb
      rw [List.length_cons,ih,hc,if_pos hb]
    · rename_i hb
      rw [hc,if_neg hb,Nat.add_zero,← ih]
      split
      · rename_i he;rw [he] at ih;simp at ih
      · simp_all
theorem count_le (l : List UInt8) : Go.Lib.countByte l 32 ≤ l.length := List.count_le_length
theorem spl_none {l : List UInt8} (h : ixs l = l.length) : spl l = [l] := by
  induction l with
  | nil=>rfl
  | cons b l ih =>
    unfold ixs at h
    rw [List.findIdx_cons] at h
    cases hb : b == 32 with
    | true=>rw [hb] at h;simp at h
    | false =>
      rw [hb] at h
      simp only [cond_false,List.length_cons] at h
      have:=ih (by unfold ixs;omega)
      have hb' : ¬ b = 32:=by simpa using hb
      unfold spl
      rw [if_neg hb',this]
theorem spl_some {l : List UInt8} (h : ¬ ixs l = l.length) : spl l = l.take (ixs l) :: spl (l.drop (ixs l + 1)) := by
  induction l with
  | nil=>simp [ixs] at h
  | cons b l ih =>
    cases hb : b == 32 with
    | true =>
      have hb' : b = 32:=by simpa using hb
      have e : ixs (b :: l) = 0:=by unfold ixs;rw [List.findIdx_cons,hb];rfl
      rw [e]
      conv=>lhs;unfold spl
      rw [if_pos hb']
      simp
    | false =>
      have hb' : ¬ b = 32:=by simpa using hb
      have e : ixs (b :: l) = ixs l + 1:=by unfold ixs;rw [List.findIdx_cons,hb];rfl
      rw [e] at h ⊢
      have:=ih (by simp at h;omega)
      conv=>lhs;unfold spl
      rw [if_neg hb',this]
      simp
theorem indexBs_con (l : List UInt8) : zD Tryd.prog 68 [.p (SB l), .p (.v (.int .u8 32))] (.p (I (Go.Lib.indexByte l 32))) := by
  have c:=indexByteString_con (bs l) 32
  simp only [bs_list,show (32 : Int).toNat.toUInt8 = 32 from rfl] at c
  refine zK Tryd.tab Tryd.mixed Tryd.func68 rfl rfl Tryd.ntmps68 (by simp) (by simp) fun Q hr hn=>?_
  repeat' first|(refine hK _ ?_;clear hK)|(refine hK _ _ ?_;clear hK)|(clear hK;refine hK _ ?_;clear hK)|(clear hK;clear hK;refine hK _ ?_;clear hK)|(clear hK;clear hK;clear hK;refine hK _ ?_;clear hK)|(clear hK;clear hK;clear hK;clear hK;refine hK _ ?_;clear hK)|(refine zI fun K hK=>?_)|((first | refine zG ?_ | refine zN rfl (by kernel_rfl) ?_ | refine zM ?_ | refine zJ (by kernel_rfl) ?_);simp only [xC,xB,strip])|((first | refine wIs fun K hK=>?_ | refine wOs fun K hK=>?_ | refine wQs fun K hK=>?_ | refine zT ?_ | refine zU ?_ | refine zV ?_ | refine zL ?_);simp)|(refine wIn ?_;refine And.intro (by kernel_rfl) ?_;try simp only [zX])|(first | refine zQ ?_ | refine zS ?_)|((first | refine zH ?_ | refine zO ?_ | refine zP ?_);try simp)|((first | refine zR ?_ | refine wOn ?_ | refine wQn ?_);try simp only [zX])|(refine zZ.pure (c) rfl ?_)|(refine zZ.lent (c) rfl ?_)|(refine zW.pure (c) rfl ?_)|(refine zW.lent (c) rfl ?_)|(refine zZ.own (c) ?_)|(refine zY.pure (c) rfl ?_)|(refine zY.lent (c) rfl ?_)|(refine zY.own (c) ?_)
  all_goals apply hr
  all_goals simp [Tryd.f68]
theorem indexs1_con (l : List UInt8) : zD Tryd.prog 61 [.p (SB l), .p (SB [32])] (.p (I (Go.Lib.indexByte l 32))) := by
  have c:=indexBs_con l
  by_cases h : l = [32]
  · subst h
    have e : Go.Lib.indexByte [32] 32 = 0:=rfl
    rw [e] at c ⊢
    refine zK Tryd.tab Tryd.mixed Tryd.func61 rfl rfl Tryd.ntmps61 (by simp) (by simp) fun Q hr hn=>?_
    repeat' first|(refine hK _ ?_;clear hK)|(refine hK _ _ ?_;clear hK)|(clear hK;refine hK _ ?_;clear hK)|(clear hK;clear hK;refine hK _ ?_;clear hK)|(clear hK;clear hK;clear hK;refine hK _ ?_;clear hK)|(clear hK;clear hK;clear hK;clear hK;refine hK _ ?_;clear hK)|(refine zI fun K hK=>?_)|((first | refine zG ?_ | refine zN rfl (by kernel_rfl) ?_ | refine zM ?_ | refine zJ (by kernel_rfl) ?_);simp only [xC,xB,strip])|((first | refine wIs fun K hK=>?_ | refine wOs fun K hK=>?_ | refine wQs fun K hK=>?_ | refine zT ?_ | refine zU ?_ | refine zV ?_ | refine zL ?_);simp)|(refine wIn ?_;refine And.intro (by kernel_rfl) ?_;try simp only [zX])|(first | refine zQ ?_ | refine zS ?_)|((first | refine zH ?_ | refine zO ?_ | refine zP ?_);try simp)|((first | refine zR ?_ | refine wOn ?_ | refine wQn ?_);try simp only [zX])|(refine zZ.pure (c) rfl ?_)|(refine zZ.lent (c) rfl ?_)|(refine zW.pure (c) rfl ?_)|(refine zW.lent (c) rfl ?_)|(refine zZ.own (c) ?_)|(refine zY.pure (c) rfl ?_)|(refine zY.lent (c) rfl ?_)|(refine zY.own (c) ?_)
    all_goals apply hr
    all_goals simp [Tryd.f61]
  · have h' : ¬ [32] = l := fun e => h e.symm
    refine zK Tryd.tab Tryd.mixed Tryd.func61 rfl rfl Tryd.ntmps61 (by simp) (by simp) fun Q hr hn=>?_
    repeat' first|(refine hK _ ?_;clear hK)|(refine hK _ _ ?_;clear hK)|(clear hK;refine hK _ ?_;clear hK)|(clear hK;clear hK;refine hK _ ?_;clear hK)|(clear hK;clear hK;clear hK;refine hK _ ?_;clear hK)|(clear hK;clear hK;clear hK;clear hK;refine hK _ ?_;clear hK)|(refine zI fun K hK=>?_)|((first | refine zG ?_ | refine zN rfl (by kernel_rfl) ?_ | refine zM ?_ | refine zJ (by kernel_rfl) ?_);simp only [xC,xB,strip])|((first | refine wIs fun K hK=>?_ | refine wOs fun K hK=>?_ | refine wQs fun K hK=>?_ | refine zT ?_ | refine zU ?_ | refine zV ?_ | refine zL ?_);simp [h,h'])|(refine wIn ?_;refine And.intro (by kernel_rfl) ?_;try simp only [zX])|(first | refine zQ ?_ | refine zS ?_)|((first | refine zH ?_ | refine zO ?_ | refine zP ?_);try simp)|((first | refine zR ?_ | refine wOn ?_ | refine wQn ?_);try simp only [zX])|(refine zZ.pure (c) rfl ?_)|(refine zZ.lent (c) rfl ?_)|(refine zW.pure (c) rfl ?_)|(refine zW.lent (c) rfl ?_)|(refine zZ.own (c) ?_)|(refine zY.pure (c) rfl ?_)|(refine zY.lent (c) rfl ?_)|(refine zY.own (c) ?_)
    all_goals apply hr
    all_goals simp [Tryd.f61]
theorem indexs_con (l : List UInt8) : zD Tryd.prog 53 [.p (SB l), .p (SB [32])] (.p (I (if ixs l = l.length then -1 else (ixs l : Int)))) := by
  have c:=indexs1_con l
  rw [indexByte_ixs] at c
  refine zK Tryd.tab Tryd.mixed Tryd.func53 rfl rfl Tryd.ntmps53 (by simp) (by simp) fun Q hr hn=>?_
  repeat' first|(refine hK _ ?_;clear hK)|(refine hK _ _ ?_;clear hK)|(clear hK;refine hK _ ?_;clear hK)|(clear hK;clear hK;refine hK _ ?_;clear hK)|(clear hK;clear hK;clear hK;refine hK _ ?_;clear hK)|(clear hK;clear hK;clear hK;clear hK;refine hK _ ?_;clear hK)|(refine zI fun K hK=>?_)|((first | refine zG ?_ | refine zN rfl (by kernel_rfl) ?_ | refine zM ?_ | refine zJ (by kernel_rfl) ?_);simp only [xC,xB,strip])|((first | refine wIs fun K hK=>?_ | refine wOs fun K hK=>?_ | refine wQs fun K hK=>?_ | refine zT ?_ | refine zU ?_ | refine zV ?_ | refine zL ?_);simp)|(refine wIn ?_;refine And.intro (by kernel_rfl) ?_;try simp only [zX])|(first | refine zQ ?_ | refine zS ?_)|((first | refine zH ?_ | refine zO ?_ | refine zP ?_);try simp)|((first | refine zR ?_ | refine wOn ?_ | refine wQn ?_);try simp only [zX])|(refine zZ.pure (c) rfl ?_)|(refine zZ.lent (c) rfl ?_)|(refine zW.pure (c) rfl ?_)|(refine zW.lent (c) rfl ?_)|(refine zZ.own (c) ?_)|(refine zY.pure (c) rfl ?_)|(refine zY.lent (c) rfl ?_)|(refine zY.own (c) ?_)
  all_goals apply hr
  all_goals simp [Tryd.f53]
theorem counts_conS (l : List UInt8) : zD Tryd.prog 52 [.p (SB l), .p (SB [32])] (.p (I (Go.Lib.countByte l 32))) := by
  have c:=countString_con (bs l) 32
  simp only [bs_list,show (32 : Int).toNat.toUInt8 = 32 from rfl] at c
  refine zK Tryd.tab Tryd.mixed Tryd.func52 rfl rfl Tryd.ntmps52 (by simp) (by simp) fun Q hr hn=>?_
  repeat' first|(refine hK _ ?_;clear hK)|(refine hK _ _ ?_;clear hK)|(clear hK;refine hK _ ?_;clear hK)|(clear hK;clear hK;refine hK _ ?_;clear hK)|(clear hK;clear hK;clear hK;refine hK _ ?_;clear hK)|(clear hK;clear hK;clear hK;clear hK;refine hK _ ?_;clear hK)|(refine zI fun K hK=>?_)|((first | refine zG ?_ | refine zN rfl (by kernel_rfl) ?_ | refine zM ?_ | refine zJ (by kernel_rfl) ?_);simp only [xC,xB,strip])|((first | refine wIs fun K hK=>?_ | refine wOs fun K hK=>?_ | refine wQs fun K hK=>?_ | refine zT ?_ | refine zU ?_ | refine zV ?_ | refine zL ?_);simp)|(refine wIn ?_;refine And.intro (by kernel_rfl) ?_;try simp only [zX])|(first | refine zQ ?_ | refine zS ?_)|((first | refine zH ?_ | refine zO ?_ | refine zP ?_);try simp)|((first | refine zR ?_ | refine wOn ?_ | refine wQn ?_);try simp only [zX])|(refine zZ.pure (c) rfl ?_)|(refine zZ.lent (c) rfl ?_)|(refine zW.pure (c) rfl ?_)|(refine zW.lent (c) rfl ?_)|(refine zZ.own (c) ?_)|(refine zY.pure (c) rfl ?_)|(refine zY.lent (c) rfl ?_)|(refine zY.own (c) ?_)
  all_goals apply hr
  all_goals simp [Tryd.f52]
def hpx (p q : List UInt8) : Bool := decide (q.length ≤ p.length ∧ p.take q.length = q)
theorem hasPrefixL_con (p q : List UInt8) : zD Tryd.prog 57 [.p (SB p), .p (SB q)] (.p (B (hpx p q))) := by
  unfold hpx
  by_cases h : q.length ≤ p.length
  · have h' : (q.length : Int) ≤ p.length := by omega
    by_cases d : p.take q.length = q
    · rw [show decide (q.length ≤ p.length ∧ p.take q.length = q) = true by simpa using ⟨h, d⟩]
      refine zK Tryd.tab Tryd.mixed Tryd.func57 rfl rfl Tryd.ntmps57 (by simp) (by simp) fun Q hr hn=>?_
      repeat' first|(refine hK _ ?_;clear hK)|(refine hK _ _ ?_;clear hK)|(clear hK;refine hK _ ?_;clear hK)|(clear hK;clear hK;refine hK _ ?_;clear hK)|(clear hK;clear hK;clear hK;refine hK _ ?_;clear hK)|(clear hK;clear hK;clear hK;clear hK;refine hK _ ?_;clear hK)|(refine zI fun K hK=>?_)|((first | refine zG ?_ | refine zN rfl (by kernel_rfl) ?_ | refine zM ?_ | refine zJ (by kernel_rfl) ?_);simp only [xC,xB,strip])|((first | refine wIs fun K hK=>?_ | refine wOs fun K hK=>?_ | refine wQs fun K hK=>?_ | refine zT ?_ | refine zU ?_ | refine zV ?_ | refine zL ?_);simp [h,h',d])|(refine wIn ?_;refine And.intro (by kernel_rfl) ?_;try simp only [zX])|(first | refine zQ ?_ | refine zS ?_)|((first | refine zH ?_ | refine zO ?_ | refine zP ?_);try simp)|((first | refine zR ?_ | refine wOn ?_ | refine wQn ?_);try simp only [zX])
      all_goals apply hr
      all_goals simp [Tryd.f57]
    · rw [show decide (q.length ≤ p.length ∧ p.take q.length = q) = false by simp [d]]
      refine zK Tryd.tab Tryd.mixed Tryd.func57 rfl rfl Tryd.ntmps57 (by simp) (by simp) fun Q hr hn=>?_
      repeat' first|(refine hK _ ?_;clear hK)|(refine hK _ _ ?_;clear hK)|(clear hK;refine hK _ ?_;clear hK)|(clear hK;clear hK;refine hK _ ?_;clear hK)|(clear hK;clear hK;clear hK;refine hK _ ?_;clear hK)|(clear hK;clear hK;clear hK;clear hK;refine hK _ ?_;clear hK)|(refine zI fun K hK=>?_)|((first | refine zG ?_ | refine zN rfl (by kernel_rfl) ?_ | refine zM ?_ | refine zJ (by kernel_rfl) ?_);simp only [xC,xB,strip])|((first | refine wIs fun K hK=>?_ | refine wOs fun K hK=>?_ | refine wQs fun K hK=>?_ | refine zT ?_ | refine zU ?_ | refine zV ?_ | refine zL ?_);simp [h,h',d])|(refine wIn ?_;refine And.intro (by kernel_rfl) ?_;try simp only [zX])|(first | refine zQ ?_ | refine zS ?_)|((first | refine zH ?_ | refine zO ?_ | refine zP ?_);try simp)|((first | refine zR ?_ | refine wOn ?_ | refine wQn ?_);try simp only [zX])
      all_goals apply hr
      all_goals simp [Tryd.f57,d]
  · have h' : ¬ (q.length : Int) ≤ p.length := by omega
    have h'' : p.length < q.length:=by omega
    rw [show decide (q.length ≤ p.length ∧ p.take q.length = q) = false by simp [h]]
    refine zK Tryd.tab Tryd.mixed Tryd.func57 rfl rfl Tryd.ntmps57 (by simp) (by simp) fun Q hr hn=>?_
    repeat' first|(refine hK _ ?_;clear hK)|(refine hK _ _ ?_;clear hK)|(clear hK;refine hK _ ?_;clear hK)|(clear hK;clear hK;refine hK _ ?_;clear hK)|(clear hK;clear hK;clear hK;refine hK _ ?_;clear hK)|(clear hK;clear hK;clear hK;clear hK;refine hK _ ?_;clear hK)|(refine zI fun K hK=>?_)|((first | refine zG ?_ | refine zN rfl (by kernel_rfl) ?_ | refine zM ?_ | refine zJ (by kernel_rfl) ?_);simp only [xC,xB,strip])|((first | refine wIs fun K hK=>?_ | refine wOs fun K hK=>?_ | refine wQs fun K hK=>?_ | refine zT ?_ | refine zU ?_ | refine zV ?_ | refine zL ?_);simp [h,h',h''])|(refine wIn ?_;refine And.intro (by kernel_rfl) ?_;try simp only [zX])|(first | refine zQ ?_ | refine zS ?_)|((first | refine zH ?_ | refine zO ?_ | refine zP ?_);try simp)|((first | refine zR ?_ | refine wOn ?_ | refine wQn ?_);try simp only [zX])
    all_goals apply hr
    all_goals simp [Tryd.f57]
theorem hasPrefix_con (p q : List UInt8) : zD Tryd.prog 50 [.p (SB p), .p (SB q)] (.p (B (hpx p q))) := by
  have c:=hasPrefixL_con p q
  refine zK Tryd.tab Tryd.mixed Tryd.func50 rfl rfl Tryd.ntmps50 (by simp) (by simp) fun Q hr hn=>?_
  repeat' first|(refine hK _ ?_;clear hK)|(refine hK _ _ ?_;clear hK)|(clear hK;refine hK _ ?_;clear hK)|(clear hK;clear hK;refine hK _ ?_;clear hK)|(clear hK;clear hK;clear hK;refine hK _ ?_;clear hK)|(clear hK;clear hK;clear hK;clear hK;refine hK _ ?_;clear hK)|(refine zI fun K hK=>?_)|((first | refine zG ?_ | refine zN rfl (by kernel_rfl) ?_ | refine zM ?_ | refine zJ (by kernel_rfl) ?_);simp only [xC,xB,strip])|((first | refine wIs fun K hK=>?_ | refine wOs fun K hK=>?_ | refine wQs fun K hK=>?_ | refine zT ?_ | refine zU ?_ | refine zV ?_ | refine zL ?_);simp)|(refine wIn ?_;refine And.intro (by kernel_rfl) ?_;try simp only [zX])|(first | refine zQ ?_ | refine zS ?_)|((first | refine zH ?_ | refine zO ?_ | refine zP ?_);try simp)|((first | refine zR ?_ | refine wOn ?_ | refine wQn ?_);try simp only [zX])|(refine zZ.pure (c) rfl ?_)|(refine zZ.lent (c) rfl ?_)|(refine zW.pure (c) rfl ?_)|(refine zW.lent (c) rfl ?_)|(refine zZ.own (c) ?_)|(refine zY.pure (c) rfl ?_)|(refine zY.lent (c) rfl ?_)|(refine zY.own (c) ?_)
  all_goals apply hr
  all_goals simp [Tryd.f50]
def sts (l : List (List UInt8)) : List (List PV) := l.map fun s => [SB s]
@[simp] theorem sts_len (l : List (List UInt8)) : (sts l).length = l.length := by simp [sts]
theorem sts_get {l : List (List UInt8)} {k : Nat} (h : k < l.length) : (sts l)[k]? = some [SB l[k]] := by simp [sts, h]
@[simp] theorem sts_getElem (l : List (List UInt8)) (k : Nat) (h : k < (sts l).length) : (sts l)[k] = [SB (l[k]'(by simpa using h))] := by simp [sts]
theorem sts_rep (n : Nat) : List.replicate n [SB []] = sts (List.replicate n []) := by simp [sts]
theorem sts_set (l : List (List UInt8)) (k : Nat) (x : List UInt8) : (sts l).set k [SB x] = sts (l.set k x) := by simp [sts, List.map_set]
theorem set_rep (d : List (List UInt8)) (n : Nat) (x : List UInt8) (h : 0 < n) : (d ++ List.replicate n []).set d.length x = (d ++ [x]) ++ List.replicate (n - 1) [] := by
  obtain ⟨m,rfl⟩ : ∃ m,n = m + 1:=⟨n - 1,by omega⟩
  rw [List.replicate_succ,List.set_append_right _ _ (Nat.le_refl _)]
  simp
set_option maxHeartbeats 4000000 in
theorem genSplit_con (L : List UInt8) (hL : L.length ≤ 1000000) : zD Tryd.prog 44 [.p (SB L), .p (SB [32]), .p (I 0), .p (I (-1))] (.p (.sl 1 (sts (spl L)))) := by
  have c1:=counts_conS L
  have hcl:=count_le L
  have hsl:=spl_len L
  generalize Go.Lib.countByte L 32 = n at *
  obtain ⟨m,hm⟩ : ∃ m,m = n + 1:=⟨_,rfl⟩
  have w1 : IntKind.i64.wrap ((n : Int) + 1) = (m : Int):=by rw [yI] <;> omega
  have w2 : IntKind.i64.wrap ((L.length : Int) + 1) = ((L.length + 1 : Nat) : Int):=by rw [yI] <;> omega
  have w3 : ¬ ((L.length + 1 : Nat) : Int) < (m : Int):=by omega
  have w3' : ¬ (L.length : Int) + 1 < (m : Int):=by omega
  have w4 : IntKind.i64.wrap ((m : Int) - 1) = (n : Int):=by rw [yI] <;> omega
  have w5 : ¬ L.length + 1 < m:=by omega
  have hrep : List.replicate m [PV.v (Value.string ByteArray.empty)] = sts (List.replicate m []):=by rw [show ByteArray.empty = bs [] from rfl];exact sts_rep m
  refine zK Tryd.tab Tryd.mixed Tryd.func44 rfl rfl Tryd.ntmps44 (by simp) (by simp) fun Q hr hn=>?_
  repeat' first|(refine hK _ ?_;clear hK)|(refine hK _ _ ?_;clear hK)|(clear hK;refine hK _ ?_;clear hK)|(clear hK;clear hK;refine hK _ ?_;clear hK)|(clear hK;clear hK;clear hK;refine hK _ ?_;clear hK)|(clear hK;clear hK;clear hK;clear hK;refine hK _ ?_;clear hK)|(refine zI fun K hK=>?_)|((first | refine zG ?_ | refine zN rfl (by kernel_rfl) ?_ | refine zM ?_ | refine zJ (by kernel_rfl) ?_);simp only [xC,xB,strip])|((first | refine wIs fun K hK=>?_ | refine wOs fun K hK=>?_ | refine wQs fun K hK=>?_ | refine zT ?_ | refine zU ?_ | refine zV ?_ | refine zL ?_);simp [w1,w2,w3,w3',w4,w5,hrep])|(refine wIn ?_;refine And.intro (by kernel_rfl) ?_;try simp only [zX])|(first | refine zQ ?_ | refine zS ?_)|((first | refine zH ?_ | refine zO ?_ | refine zP ?_);try simp)|((first | refine zR ?_ | refine wOn ?_ | refine wQn ?_);try simp only [zX])|(refine zZ.pure (c1) rfl ?_)|(refine zZ.lent (c1) rfl ?_)|(refine zW.pure (c1) rfl ?_)|(refine zW.lent (c1) rfl ?_)|(refine zZ.own (c1) ?_)|(refine zY.pure (c1) rfl ?_)|(refine zY.lent (c1) rfl ?_)|(refine zY.own (c1) ?_)|(rw [if_pos ⟨by omega,by omega⟩])
  refine wLoop (fun N st=>∃ (i : Nat) (s : List UInt8) (d : List (List UInt8)),N + i = m ∧ d.length = i ∧ spl L = d ++ spl s ∧ s.length ≤ L.length ∧ st.s 0 = .p (SB s) ∧ st.s 1 = .p (SB [32]) ∧ st.s 2 = .p (I 0) ∧ st.s 3 = .p (I n) ∧ st.s 9 = .row 31 ∧ st.s 10 = .p (I i) ∧ st.b 31 = some (.row 9 1 (sts (d ++ List.replicate (m - i) [])))) m ⟨0,L,[],by simp⟩ fun K N st hL2 ⟨i,s,d,hN,hd,he,hs,g0,g1,g2,g3,g9,g10,b31⟩=>?_
  have hsn : (spl s).length = m - i:=by have:=congrArg List.length he;rw [List.length_append] at this;omega
  by_cases hlt : i < n
  · have hlt' : (i : Int) < n := by omega
    have c2:=indexs_con s
    have hix : ¬ ixs s = s.length:=fun h=>by rw [spl_none h] at hsn;simp at hsn;omega
    rw [if_neg hix] at c2
    have hle:=ixs_le s
    have hsp:=spl_some hix
    have v1 : IntKind.i64.wrap ((ixs s : Int) + 0) = (ixs s : Int):=by rw [yI] <;> omega
    have v2 : IntKind.i64.wrap ((ixs s : Int) + 1) = ((ixs s + 1 : Nat) : Int):=by rw [yI] <;> omega
    have hw:=wrapS i _ hlt (by omega)
    have hx1 : ixs s + 1 ≤ s.length:=by omega
    have hset : (sts (d ++ List.replicate (m - i) [])).set i [SB (s.take (ixs s))] = sts ((d ++ [s.take (ixs s)]) ++ List.replicate (m - (i + 1)) []) := by
      rw [sts_set,← hd,set_rep _ _ _ (by omega)];congr 3
    have hil : i < (d ++ List.replicate (m - i) ([] : List UInt8)).length:=by simp;omega
    have hsp' : spl L = (d ++ [s.take (ixs s)]) ++ spl (s.drop (ixs s + 1)):=by rw [he,hsp];simp
    have hdl : (s.drop (ixs s + 1)).length ≤ L.length:=by simp;omega
    generalize ixs s = x at *
    have hx0 : ¬ (x : Int) < 0:=by omega
    have v1' : IntKind.i64.wrap (x : Int) = (x : Int):=by simpa using v1
    have hx0' : (0 : Int) ≤ (x : Int) + 1:=by omega
    have hxt : (((x + 1 : Nat) : Int)).toNat = x + 1:=by omega
    generalize d ++ List.replicate (m - i) [] = Y at *
    repeat' first|(refine hK _ ?_;clear hK)|(refine hK _ _ ?_;clear hK)|(clear hK;refine hK _ ?_;clear hK)|(clear hK;clear hK;refine hK _ ?_;clear hK)|(clear hK;clear hK;clear hK;refine hK _ ?_;clear hK)|(clear hK;clear hK;clear hK;clear hK;refine hK _ ?_;clear hK)|(refine zI fun K hK=>?_)|((first | refine zG ?_ | refine zN rfl (by kernel_rfl) ?_ | refine zM ?_ | refine zJ (by kernel_rfl) ?_);simp only [xC,xB,strip])|((first | refine wIs fun K hK=>?_ | refine wOs fun K hK=>?_ | refine wQs fun K hK=>?_ | refine zT ?_ | refine zU ?_ | refine zV ?_ | refine zL ?_);simp [g0,g1,g2,g3,g9,g10,b31,hlt,hlt',v1,v2,hw,hle,hx1,hset,hil,v1',hx0,hx0',hxt])|(refine wIn ?_;refine And.intro (by kernel_rfl) ?_;try simp only [zX])|(first | refine zQ ?_ | refine zS ?_)|((first | refine zH ?_ | refine zO ?_ | refine zP ?_);try simp)|((first | refine zR ?_ | refine wOn ?_ | refine wQn ?_);try simp only [zX])|(refine zZ.pure (c2) rfl ?_)|(refine zZ.lent (c2) rfl ?_)|(refine zW.pure (c2) rfl ?_)|(refine zW.lent (c2) rfl ?_)|(refine zZ.own (c2) ?_)|(refine zY.pure (c2) rfl ?_)|(refine zY.lent (c2) rfl ?_)|(refine zY.own (c2) ?_)
    refine hL2 _ (N - 1) (by omega) ⟨i + 1,s.drop (x + 1),d ++ [s.take x],by omega,by simp [hd],hsp',hdl,?_⟩
    simp [g0,g1,g2,g3,g9,g10,b31,hw,hset,v2]
  · have hin : i = n := by
      have : (spl s).length ≠ 0:=by rw [spl_len];omega
      omega
    have hmi : m - i = 1:=by omega
    rw [hmi] at b31 hsn
    clear w1 w2 w3 w3' w4 w5 hrep
    subst hin
    have hlt' : ¬ (i : Int) < i:=by omega
    have hone : spl s = [s] := by
      by_cases h : ixs s = s.length
      · exact spl_none h
      · have h2 := spl_some h
        have h3:=spl_len (s.drop (ixs s + 1))
        rw [h2,List.length_cons] at hsn;omega
    have hw : IntKind.i64.wrap ((i : Int) + 1) = ((i + 1 : Nat) : Int):=by rw [yI] <;> omega
    have hset : (sts (d ++ List.replicate 1 [])).set i [SB s] = sts (spl L) := by
      rw [sts_set,← hd,set_rep _ _ _ (by omega),he,hone];simp
    have hil : i < (d ++ List.replicate 1 ([] : List UInt8)).length:=by simp;omega
    have hsl2 : (sts (spl L)).length = i + 1:=by simpa using hsl
    have htk : (sts (spl L)).take (i + 1) = sts (spl L):=List.take_of_length_le (by omega)
    generalize d ++ List.replicate 1 [] = Y at *
    generalize sts (spl L) = Z at *
    repeat' first|(refine hK _ ?_;clear hK)|(refine hK _ _ ?_;clear hK)|(clear hK;refine hK _ ?_;clear hK)|(clear hK;clear hK;refine hK _ ?_;clear hK)|(clear hK;clear hK;clear hK;refine hK _ ?_;clear hK)|(clear hK;clear hK;clear hK;clear hK;refine hK _ ?_;clear hK)|(refine zI fun K hK=>?_)|((first | refine zG ?_ | refine zN rfl (by kernel_rfl) ?_ | refine zM ?_ | refine zJ (by kernel_rfl) ?_);simp only [xC,xB,strip])|((first | refine wIs fun K hK=>?_ | refine wOs fun K hK=>?_ | refine wQs fun K hK=>?_ | refine zT ?_ | refine zU ?_ | refine zV ?_ | refine zL ?_);simp [g0,g1,g2,g3,g9,g10,b31,hlt,hlt',hw,hset,hil,hsl2,htk])|(refine wIn ?_;refine And.intro (by kernel_rfl) ?_;try simp only [zX])|(first | refine zQ ?_ | refine zS ?_)|((first | refine zH ?_ | refine zO ?_ | refine zP ?_);try simp)|((first | refine zR ?_ | refine wOn ?_ | refine wQn ?_);try simp only [zX])|(refine And.intro (by omega) ?_)
    all_goals apply hr
    all_goals simp [Tryd.f44,htk]
theorem split_con (L : List UInt8) (hL : L.length ≤ 1000000) : zD Tryd.prog 36 [.p (SB L), .p (SB [32])] (.p (.sl 1 (sts (spl L)))) := by
  have c:=genSplit_con L hL
  refine zK Tryd.tab Tryd.mixed Tryd.func36 rfl rfl Tryd.ntmps36 (by simp) (by simp) fun Q hr hn=>?_
  repeat' first|(refine hK _ ?_;clear hK)|(refine hK _ _ ?_;clear hK)|(clear hK;refine hK _ ?_;clear hK)|(clear hK;clear hK;refine hK _ ?_;clear hK)|(clear hK;clear hK;clear hK;refine hK _ ?_;clear hK)|(clear hK;clear hK;clear hK;clear hK;refine hK _ ?_;clear hK)|(refine zI fun K hK=>?_)|((first | refine zG ?_ | refine zN rfl (by kernel_rfl) ?_ | refine zM ?_ | refine zJ (by kernel_rfl) ?_);simp only [xC,xB,strip])|((first | refine wIs fun K hK=>?_ | refine wOs fun K hK=>?_ | refine wQs fun K hK=>?_ | refine zT ?_ | refine zU ?_ | refine zV ?_ | refine zL ?_);simp)|(refine wIn ?_;refine And.intro (by kernel_rfl) ?_;try simp only [zX])|(first | refine zQ ?_ | refine zS ?_)|((first | refine zH ?_ | refine zO ?_ | refine zP ?_);try simp)|((first | refine zR ?_ | refine wOn ?_ | refine wQn ?_);try simp only [zX])|(refine zZ.pure (c) rfl ?_)|(refine zZ.lent (c) rfl ?_)|(refine zW.pure (c) rfl ?_)|(refine zW.lent (c) rfl ?_)|(refine zZ.own (c) ?_)|(refine zY.pure (c) rfl ?_)|(refine zY.lent (c) rfl ?_)|(refine zY.own (c) ?_)
  all_goals apply hr
  all_goals simp [Tryd.f36]
end Go.Proofs.YtjekjpgccnhobaaDoor
/- Small functions of the library; the closed calls of layers 5 and 17. -/
namespace Go.Proofs.YtjekjpgccnhobaaDoor
set_option linter.unusedSimpArgs false
set_option linter.unusedVariables false
open Go Go.Av
attribute [local irreducible] Go.Av.CallK Go.Av.zZ Go.Av.CallQ Go.Av.zW Go.Av.CallR Go.Av.zY Go.Av.Con
/- Layer 5's leaves: what is in a list, members, and what may be. -/
theorem take_snoc {α : Type} (l : List α) (k : Nat) (h : k < l.length) : l.take (k + 1) = l.take k ++ [l[k]] := List.take_succ_eq_append_getElem h
def ints (l : List Int) : List (List PV) := l.map fun n => [I n]
@[simp] theorem ints_len (l : List Int) : (ints l).length = l.length := by simp [ints]
@[simp] theorem ints_getElem (l : List Int) (k : Nat) (h : k < (ints l).length) : (ints l)[k] = [I (l[k]'(by simpa using h))] := by simp [ints]
theorem ints_get {l : List Int} {k : Nat} (h : k < l.length) : (ints l)[k]? = some [I l[k]] := by simp [ints, h]
theorem ints_snoc (l : List Int) (a : Int) : ints l ++ [[I a]] = ints (l ++ [a]) := by simp [ints]
structure Mb where
  (i r w g : Int)
  deriving DecidableEq
def Mb.cells (m : Mb) : List PV := [I m.i, I m.r, I m.w, I m.g]
def mbs (l : List Mb) : List (List PV) := l.map Mb.cells
@[simp] theorem mbs_len (l : List Mb) : (mbs l).length = l.length := by simp [mbs]
@[simp] theorem mbs_getElem (l : List Mb) (k : Nat) (h : k < (mbs l).length) : (mbs l)[k] = [I (l[k]'(by simpa using h)).i, I (l[k]'(by simpa using h)).r, I (l[k]'(by simpa using h)).w, I (l[k]'(by simpa using h)).g] := by simp [mbs, Mb.cells]
theorem mbs_get {l : List Mb} {k : Nat} (h : k < l.length) : (mbs l)[k]? = some [I l[k].i, I l[k].r, I l[k].w, I l[k].g] := by simp [mbs, h, Mb.cells]
structure Cf where
  (ep n kind : Int)
  ms : List Mb
def Cf.cells (c : Cf) : List PV := [I c.ep, I c.n, I c.kind, .sl 4 (mbs c.ms)]
def okM (m : Mb) : Prop := (0 ≤ m.i ∧ m.i ≤ 15) ∧ (m.r = 1 ∨ m.r = 2) ∧ (0 ≤ m.w ∧ m.w ≤ 100) ∧ (0 ≤ m.g ∧ m.g ≤ 7)
instance (m : Mb) : Decidable (okM m) := by unfold okM; infer_instance
theorem within_con (n l : Int) : zD Tryd.prog 24 [.p (I n), .p (I l)] (.p (B (decide (0 ≤ n ∧ n ≤ l)))) := by
  by_cases h : 0 ≤ n
  · refine zK Tryd.tab Tryd.mixed Tryd.func24 rfl rfl Tryd.ntmps24 (by simp) (by simp) fun Q hr hn => ?_
    repeat' first|(refine hK _ ?_;clear hK)|(refine hK _ _ ?_;clear hK)|(clear hK;refine hK _ ?_;clear hK)|(clear hK;clear hK;refine hK _ ?_;clear hK)|(clear hK;clear hK;clear hK;refine hK _ ?_;clear hK)|(clear hK;clear hK;clear hK;clear hK;refine hK _ ?_;clear hK)|(refine zI fun K hK=>?_)|((first | refine zG ?_ | refine zN rfl (by kernel_rfl) ?_ | refine zM ?_ | refine zJ (by kernel_rfl) ?_);simp only [xC,xB,strip])|((first | refine wIs fun K hK=>?_ | refine wOs fun K hK=>?_ | refine wQs fun K hK=>?_ | refine zT ?_ | refine zU ?_ | refine zV ?_ | refine zL ?_);simp [h])|(refine wIn ?_;refine And.intro (by kernel_rfl) ?_;try simp only [zX])|(first | refine zQ ?_ | refine zS ?_)|((first | refine zH ?_ | refine zO ?_ | refine zP ?_);try simp)|((first | refine zR ?_ | refine wOn ?_ | refine wQn ?_);try simp only [zX])
    all_goals apply hr
    all_goals simp [Tryd.f24,h]
  · refine zK Tryd.tab Tryd.mixed Tryd.func24 rfl rfl Tryd.ntmps24 (by simp) (by simp) fun Q hr hn => ?_
    repeat' first|(refine hK _ ?_;clear hK)|(refine hK _ _ ?_;clear hK)|(clear hK;refine hK _ ?_;clear hK)|(clear hK;clear hK;refine hK _ ?_;clear hK)|(clear hK;clear hK;clear hK;refine hK _ ?_;clear hK)|(clear hK;clear hK;clear hK;clear hK;refine hK _ ?_;clear hK)|(refine zI fun K hK=>?_)|((first | refine zG ?_ | refine zN rfl (by kernel_rfl) ?_ | refine zM ?_ | refine zJ (by kernel_rfl) ?_);simp only [xC,xB,strip])|((first | refine wIs fun K hK=>?_ | refine wOs fun K hK=>?_ | refine wQs fun K hK=>?_ | refine zT ?_ | refine zU ?_ | refine zV ?_ | refine zL ?_);simp [h])|(refine wIn ?_;refine And.intro (by kernel_rfl) ?_;try simp only [zX])|(first | refine zQ ?_ | refine zS ?_)|((first | refine zH ?_ | refine zO ?_ | refine zP ?_);try simp)|((first | refine zR ?_ | refine wOn ?_ | refine wQn ?_);try simp only [zX])
    all_goals apply hr
    all_goals simp [Tryd.f24,h]
theorem rightM_con (m : Mb) : zD Tryd.prog 25 [.p (.agg m.cells)] (.p (B (decide (okM m)))) := by
  obtain ⟨i,r,w,g⟩:=m
  simp only [Mb.cells,okM]
  have c1:=within_con i 15
  have c2:=within_con w 100
  have c3:=within_con g 7
  by_cases h1 : 0 ≤ i ∧ i ≤ 15
  · rw [decide_eq_true h1] at c1
    by_cases h2 : r = 1
    · by_cases h3 : 0 ≤ w ∧ w ≤ 100
      · rw [decide_eq_true h3] at c2
        refine zK Tryd.tab Tryd.mixed Tryd.func25 rfl rfl Tryd.ntmps25 (by simp) (by simp) fun Q hr hn=>?_
        repeat' first|(refine hK _ ?_;clear hK)|(refine hK _ _ ?_;clear hK)|(clear hK;refine hK _ ?_;clear hK)|(clear hK;clear hK;refine hK _ ?_;clear hK)|(clear hK;clear hK;clear hK;refine hK _ ?_;clear hK)|(clear hK;clear hK;clear hK;clear hK;refine hK _ ?_;clear hK)|(refine zI fun K hK=>?_)|((first | refine zG ?_ | refine zN rfl (by kernel_rfl) ?_ | refine zM ?_ | refine zJ (by kernel_rfl) ?_);simp only [xC,xB,strip])|((first | refine wIs fun K hK=>?_ | refine wOs fun K hK=>?_ | refine wQs fun K hK=>?_ | refine zT ?_ | refine zU ?_ | refine zV ?_ | refine zL ?_);simp [h1,h2,h3])|(refine wIn ?_;refine And.intro (by kernel_rfl) ?_;try simp only [zX])|(first | refine zQ ?_ | refine zS ?_)|((first | refine zH ?_ | refine zO ?_ | refine zP ?_);try simp)|((first | refine zR ?_ | refine wOn ?_ | refine wQn ?_);try simp only [zX])|(refine zZ.pure (c1) rfl ?_)|(refine zZ.lent (c1) rfl ?_)|(refine zW.pure (c1) rfl ?_)|(refine zW.lent (c1) rfl ?_)|(refine zZ.own (c1) ?_)|(refine zY.pure (c1) rfl ?_)|(refine zY.lent (c1) rfl ?_)|(refine zY.own (c1) ?_)|(refine zZ.pure (c2) rfl ?_)|(refine zZ.lent (c2) rfl ?_)|(refine zW.pure (c2) rfl ?_)|(refine zW.lent (c2) rfl ?_)|(refine zZ.own (c2) ?_)|(refine zY.pure (c2) rfl ?_)|(refine zY.lent (c2) rfl ?_)|(refine zY.own (c2) ?_)|(refine zZ.pure (c3) rfl ?_)|(refine zZ.lent (c3) rfl ?_)|(refine zW.pure (c3) rfl ?_)|(refine zW.lent (c3) rfl ?_)|(refine zZ.own (c3) ?_)|(refine zY.pure (c3) rfl ?_)|(refine zY.lent (c3) rfl ?_)|(refine zY.own (c3) ?_)
        all_goals apply hr
        all_goals simp [Tryd.f25,h1,h2,h3]
      · rw [decide_eq_false h3] at c2
        refine zK Tryd.tab Tryd.mixed Tryd.func25 rfl rfl Tryd.ntmps25 (by simp) (by simp) fun Q hr hn=>?_
        repeat' first|(refine hK _ ?_;clear hK)|(refine hK _ _ ?_;clear hK)|(clear hK;refine hK _ ?_;clear hK)|(clear hK;clear hK;refine hK _ ?_;clear hK)|(clear hK;clear hK;clear hK;refine hK _ ?_;clear hK)|(clear hK;clear hK;clear hK;clear hK;refine hK _ ?_;clear hK)|(refine zI fun K hK=>?_)|((first | refine zG ?_ | refine zN rfl (by kernel_rfl) ?_ | refine zM ?_ | refine zJ (by kernel_rfl) ?_);simp only [xC,xB,strip])|((first | refine wIs fun K hK=>?_ | refine wOs fun K hK=>?_ | refine wQs fun K hK=>?_ | refine zT ?_ | refine zU ?_ | refine zV ?_ | refine zL ?_);simp [h1,h2])|(refine wIn ?_;refine And.intro (by kernel_rfl) ?_;try simp only [zX])|(first | refine zQ ?_ | refine zS ?_)|((first | refine zH ?_ | refine zO ?_ | refine zP ?_);try simp)|((first | refine zR ?_ | refine wOn ?_ | refine wQn ?_);try simp only [zX])|(refine zZ.pure (c1) rfl ?_)|(refine zZ.lent (c1) rfl ?_)|(refine zW.pure (c1) rfl ?_)|(refine zW.lent (c1) rfl ?_)|(refine zZ.own (c1) ?_)|(refine zY.pure (c1) rfl ?_)|(refine zY.lent (c1) rfl ?_)|(refine zY.own (c1) ?_)|(refine zZ.pure (c2) rfl ?_)|(refine zZ.lent (c2) rfl ?_)|(refine zW.pure (c2) rfl ?_)|(refine zW.lent (c2) rfl ?_)|(refine zZ.own (c2) ?_)|(refine zY.pure (c2) rfl ?_)|(refine zY.lent (c2) rfl ?_)|(refine zY.own (c2) ?_)
        all_goals apply hr
        all_goals simp [Tryd.f25,h1,h2,h3]
    · by_cases h2' : r = 2
      · by_cases h3 : 0 ≤ w ∧ w ≤ 100
        · rw [decide_eq_true h3] at c2
          refine zK Tryd.tab Tryd.mixed Tryd.func25 rfl rfl Tryd.ntmps25 (by simp) (by simp) fun Q hr hn=>?_
          repeat' first|(refine hK _ ?_;clear hK)|(refine hK _ _ ?_;clear hK)|(clear hK;refine hK _ ?_;clear hK)|(clear hK;clear hK;refine hK _ ?_;clear hK)|(clear hK;clear hK;clear hK;refine hK _ ?_;clear hK)|(clear hK;clear hK;clear hK;clear hK;refine hK _ ?_;clear hK)|(refine zI fun K hK=>?_)|((first | refine zG ?_ | refine zN rfl (by kernel_rfl) ?_ | refine zM ?_ | refine zJ (by kernel_rfl) ?_);simp only [xC,xB,strip])|((first | refine wIs fun K hK=>?_ | refine wOs fun K hK=>?_ | refine wQs fun K hK=>?_ | refine zT ?_ | refine zU ?_ | refine zV ?_ | refine zL ?_);simp [h1,h2,h2',h3])|(refine wIn ?_;refine And.intro (by kernel_rfl) ?_;try simp only [zX])|(first | refine zQ ?_ | refine zS ?_)|((first | refine zH ?_ | refine zO ?_ | refine zP ?_);try simp)|((first | refine zR ?_ | refine wOn ?_ | refine wQn ?_);try simp only [zX])|(refine zZ.pure (c1) rfl ?_)|(refine zZ.lent (c1) rfl ?_)|(refine zW.pure (c1) rfl ?_)|(refine zW.lent (c1) rfl ?_)|(refine zZ.own (c1) ?_)|(refine zY.pure (c1) rfl ?_)|(refine zY.lent (c1) rfl ?_)|(refine zY.own (c1) ?_)|(refine zZ.pure (c2) rfl ?_)|(refine zZ.lent (c2) rfl ?_)|(refine zW.pure (c2) rfl ?_)|(refine zW.lent (c2) rfl ?_)|(refine zZ.own (c2) ?_)|(refine zY.pure (c2) rfl ?_)|(refine zY.lent (c2) rfl ?_)|(refine zY.own (c2) ?_)|(refine zZ.pure (c3) rfl ?_)|(refine zZ.lent (c3) rfl ?_)|(refine zW.pure (c3) rfl ?_)|(refine zW.lent (c3) rfl ?_)|(refine zZ.own (c3) ?_)|(refine zY.pure (c3) rfl ?_)|(refine zY.lent (c3) rfl ?_)|(refine zY.own (c3) ?_)
          all_goals apply hr
          all_goals simp [Tryd.f25,h1,h2,h2',h3]
        · rw [decide_eq_false h3] at c2
          refine zK Tryd.tab Tryd.mixed Tryd.func25 rfl rfl Tryd.ntmps25 (by simp) (by simp) fun Q hr hn=>?_
          repeat' first|(refine hK _ ?_;clear hK)|(refine hK _ _ ?_;clear hK)|(clear hK;refine hK _ ?_;clear hK)|(clear hK;clear hK;refine hK _ ?_;clear hK)|(clear hK;clear hK;clear hK;refine hK _ ?_;clear hK)|(clear hK;clear hK;clear hK;clear hK;refine hK _ ?_;clear hK)|(refine zI fun K hK=>?_)|((first | refine zG ?_ | refine zN rfl (by kernel_rfl) ?_ | refine zM ?_ | refine zJ (by kernel_rfl) ?_);simp only [xC,xB,strip])|((first | refine wIs fun K hK=>?_ | refine wOs fun K hK=>?_ | refine wQs fun K hK=>?_ | refine zT ?_ | refine zU ?_ | refine zV ?_ | refine zL ?_);simp [h1,h2,h2'])|(refine wIn ?_;refine And.intro (by kernel_rfl) ?_;try simp only [zX])|(first | refine zQ ?_ | refine zS ?_)|((first | refine zH ?_ | refine zO ?_ | refine zP ?_);try simp)|((first | refine zR ?_ | refine wOn ?_ | refine wQn ?_);try simp only [zX])|(refine zZ.pure (c1) rfl ?_)|(refine zZ.lent (c1) rfl ?_)|(refine zW.pure (c1) rfl ?_)|(refine zW.lent (c1) rfl ?_)|(refine zZ.own (c1) ?_)|(refine zY.pure (c1) rfl ?_)|(refine zY.lent (c1) rfl ?_)|(refine zY.own (c1) ?_)|(refine zZ.pure (c2) rfl ?_)|(refine zZ.lent (c2) rfl ?_)|(refine zW.pure (c2) rfl ?_)|(refine zW.lent (c2) rfl ?_)|(refine zZ.own (c2) ?_)|(refine zY.pure (c2) rfl ?_)|(refine zY.lent (c2) rfl ?_)|(refine zY.own (c2) ?_)
          all_goals apply hr
          all_goals simp [Tryd.f25,h1,h2,h2',h3]
      · refine zK Tryd.tab Tryd.mixed Tryd.func25 rfl rfl Tryd.ntmps25 (by simp) (by simp) fun Q hr hn => ?_
        repeat' first|(refine hK _ ?_;clear hK)|(refine hK _ _ ?_;clear hK)|(clear hK;refine hK _ ?_;clear hK)|(clear hK;clear hK;refine hK _ ?_;clear hK)|(clear hK;clear hK;clear hK;refine hK _ ?_;clear hK)|(clear hK;clear hK;clear hK;clear hK;refine hK _ ?_;clear hK)|(refine zI fun K hK=>?_)|((first | refine zG ?_ | refine zN rfl (by kernel_rfl) ?_ | refine zM ?_ | refine zJ (by kernel_rfl) ?_);simp only [xC,xB,strip])|((first | refine wIs fun K hK=>?_ | refine wOs fun K hK=>?_ | refine wQs fun K hK=>?_ | refine zT ?_ | refine zU ?_ | refine zV ?_ | refine zL ?_);simp [h1,h2,h2'])|(refine wIn ?_;refine And.intro (by kernel_rfl) ?_;try simp only [zX])|(first | refine zQ ?_ | refine zS ?_)|((first | refine zH ?_ | refine zO ?_ | refine zP ?_);try simp)|((first | refine zR ?_ | refine wOn ?_ | refine wQn ?_);try simp only [zX])|(refine zZ.pure (c1) rfl ?_)|(refine zZ.lent (c1) rfl ?_)|(refine zW.pure (c1) rfl ?_)|(refine zW.lent (c1) rfl ?_)|(refine zZ.own (c1) ?_)|(refine zY.pure (c1) rfl ?_)|(refine zY.lent (c1) rfl ?_)|(refine zY.own (c1) ?_)
        all_goals apply hr
        all_goals simp [Tryd.f25,h1,h2,h2']
  · rw [decide_eq_false h1] at c1
    refine zK Tryd.tab Tryd.mixed Tryd.func25 rfl rfl Tryd.ntmps25 (by simp) (by simp) fun Q hr hn=>?_
    repeat' first|(refine hK _ ?_;clear hK)|(refine hK _ _ ?_;clear hK)|(clear hK;refine hK _ ?_;clear hK)|(clear hK;clear hK;refine hK _ ?_;clear hK)|(clear hK;clear hK;clear hK;refine hK _ ?_;clear hK)|(clear hK;clear hK;clear hK;clear hK;refine hK _ ?_;clear hK)|(refine zI fun K hK=>?_)|((first | refine zG ?_ | refine zN rfl (by kernel_rfl) ?_ | refine zM ?_ | refine zJ (by kernel_rfl) ?_);simp only [xC,xB,strip])|((first | refine wIs fun K hK=>?_ | refine wOs fun K hK=>?_ | refine wQs fun K hK=>?_ | refine zT ?_ | refine zU ?_ | refine zV ?_ | refine zL ?_);simp [h1])|(refine wIn ?_;refine And.intro (by kernel_rfl) ?_;try simp only [zX])|(first | refine zQ ?_ | refine zS ?_)|((first | refine zH ?_ | refine zO ?_ | refine zP ?_);try simp)|((first | refine zR ?_ | refine wOn ?_ | refine wQn ?_);try simp only [zX])|(refine zZ.pure (c1) rfl ?_)|(refine zZ.lent (c1) rfl ?_)|(refine zW.pure (c1) rfl ?_)|(refine zW.lent (c1) rfl ?_)|(refine zZ.own (c1) ?_)|(refine zY.pure (c1) rfl ?_)|(refine zY.lent (c1) rfl ?_)|(refine zY.own (c1) ?_)
    all_goals apply hr
    all_goals simp [Tryd.f25,h1]
/- zxid.Cmp, and the document's. -/
/- Layer 2: what comes next, which is last, whose an epoch is; the document's answers. -/
theorem counts_con (n : Int) : zD Tryd.prog 38 [.p (I n)] (.p (B (decide (0 ≤ n ∧ n ≤ 1099511627776)))) := by
  by_cases h1 : 0 ≤ n <;> by_cases h2 : n ≤ 1099511627776
  all_goals (have h1' : (n ≥ 0) ↔ (0 ≤ n):=Iff.rfl)
  all_goals refine zK Tryd.tab Tryd.mixed Tryd.func38 rfl rfl Tryd.ntmps38 (by simp) (by simp) fun Q hr hn=>?_
  all_goals repeat' first|(refine hK _ ?_;clear hK)|(refine hK _ _ ?_;clear hK)|(clear hK;refine hK _ ?_;clear hK)|(clear hK;clear hK;refine hK _ ?_;clear hK)|(clear hK;clear hK;clear hK;refine hK _ ?_;clear hK)|(clear hK;clear hK;clear hK;clear hK;refine hK _ ?_;clear hK)|(refine zI fun K hK=>?_)|((first | refine zG ?_ | refine zN rfl (by kernel_rfl) ?_ | refine zM ?_ | refine zJ (by kernel_rfl) ?_);simp only [xC,xB,strip])|((first | refine wIs fun K hK=>?_ | refine wOs fun K hK=>?_ | refine wQs fun K hK=>?_ | refine zT ?_ | refine zU ?_ | refine zV ?_ | refine zL ?_);simp [h1,h2])|(refine wIn ?_;refine And.intro (by kernel_rfl) ?_;try simp only [zX])|(first | refine zQ ?_ | refine zS ?_)|((first | refine zH ?_ | refine zO ?_ | refine zP ?_);try simp)|((first | refine zR ?_ | refine wOn ?_ | refine wQn ?_);try simp only [zX])
  all_goals apply hr
  all_goals simp [Tryd.f38,h1,h2]
structure Zx where
  (e n : Int)
  deriving DecidableEq
def zxs (l : List Zx) : List (List PV) := l.map fun z => [I z.e, I z.n]
@[simp] theorem zxs_len (l : List Zx) : (zxs l).length = l.length := by simp [zxs]
@[simp] theorem zxs_getE {l : List Zx} {k : Nat} (h : k < (zxs l).length) : (zxs l)[k] = [I (l[k]'(by simpa using h)).e, I (l[k]'(by simpa using h)).n] := by simp [zxs]
end Go.Proofs.YtjekjpgccnhobaaDoor
/- The closed call of layer 2. -/
namespace Go.Proofs.YtjekjpgccnhobaaDoor
open Go Go.Av
end Go.Proofs.YtjekjpgccnhobaaDoor
/- The laws ZxidPlaces, ZxidFresh, ZxidApart; what comes in, opened. -/
namespace Go.Proofs.YtjekjpgccnhobaaDoor
set_option linter.unusedSimpArgs false
set_option linter.unusedVariables false
open Go Go.Av
attribute [local irreducible] Go.Av.CallK Go.Av.zZ Go.Av.CallQ Go.Av.zW Go.Av.CallR Go.Av.zY Go.Av.Con
/- Layer 2: numbers and places, as text; the document's. -/
def dig (b : UInt8) : Bool := decide (48 ≤ b.toNat ∧ b.toNat ≤ 57)
def dv (l : List UInt8) : Int := l.foldl (fun (n : Int) b => 10 * n + ((b.toNat : Int) - 48)) 0
theorem dv_snoc (l : List UInt8) (k : Nat) (h : k < l.length) : dv (l.take (k + 1)) = 10 * dv (l.take k) + ((l[k].toNat : Int) - 48) := by
  rw [List.take_succ_eq_append_getElem h,dv,List.foldl_append];rfl
theorem all_snoc (l : List UInt8) (k : Nat) (h : k < l.length) : (l.take (k + 1)).all dig = ((l.take k).all dig && dig l[k]) := by
  rw [List.take_succ_eq_append_getElem h,List.all_append];simp
theorem all_take {l : List UInt8} (k : Nat) (h : l.all dig = true) : (l.take k).all dig = true := by
  rw [List.all_eq_true] at h ⊢
  exact fun x hx=>h x (List.mem_of_mem_take hx)
theorem dv_bound (l : List UInt8) : ∀ k, (l.take k).all dig = true → 0 ≤ dv (l.take k) ∧ dv (l.take k) < (10 ^ k : Nat) := by
  intro k
  induction k with
  | zero=>intro _;simp [dv]
  | succ k ih =>
    intro h
    by_cases hk : k < l.length
    · rw [all_snoc l k hk, Bool.and_eq_true] at h
      obtain ⟨h1,h2⟩:=ih h.1
      rw [dv_snoc l k hk]
      have h3:=h.2
      simp only [dig,decide_eq_true_eq] at h3
      rw [Nat.pow_succ]
      generalize 10 ^ k = p at h2 ⊢
      omega
    · rw [List.take_of_length_le (by omega)] at h ⊢
      rw [List.take_of_length_le (by omega)] at ih
      obtain ⟨h1,h2⟩:=ih h
      refine ⟨h1,?_⟩
      rw [Nat.pow_succ]
      generalize 10 ^ k = p at h2 ⊢
      omega
theorem dv_13 {l : List UInt8} {k : Nat} (hl : l.length ≤ 13) (h : (l.take k).all dig = true) : 0 ≤ dv (l.take k) ∧ dv (l.take k) < 10000000000000 := by
  have hm : l.take k = l.take (min k l.length) := by
    by_cases hk : k ≤ l.length
    · rw [Nat.min_eq_left hk]
    · rw [Nat.min_eq_right (by omega),List.take_of_length_le (by omega),List.take_of_length_le (by omega)]
  rw [hm] at h ⊢
  obtain ⟨h1,h2⟩:=dv_bound l _ h
  have h3 : 10 ^ (min k l.length) ≤ 10 ^ 13:=Nat.pow_le_pow_right (by omega) (by omega)
  refine ⟨h1,Int.lt_of_lt_of_le h2 ?_⟩
  have : ((10 ^ (min k l.length) : Nat) : Int) ≤ ((10 ^ 13 : Nat) : Int):=by exact_mod_cast h3
  simpa using this
def badN (l : List UInt8) : Bool := decide (l = [] ∨ 13 < l.length ∨ (l[0]? = some 48 ∧ l ≠ [48])) || !l.all dig
def num (l : List UInt8) : Int × Bool := if badN l = true then (0, false) else (dv l, decide (dv l ≤ 1099511627776))
theorem numL {Q : AExit → St → Prop} {st : St} (l : List UInt8) (hl : l.length ≤ 13) (hret : l.all dig = false → ∀ st, st.s 2 = .p (I 0) ∧ st.s 3 = .p (B false) → Q .ret st)
    (hex : l.all dig = true → ∀ st,st.s 4 = .p (I (dv l)) → Q (.exit 0) st) (h0 : st.s 24 = .p (.sl 1 (l.map fun b=>[.v (.int .u8 b.toNat)])) ∧ st.s 25 = .p (I l.length) ∧ st.s 26 = .p (I 0) ∧ st.s 4 = .p (I 0)) :
    WC Tryd.prog Tryd.T 46 (lp Tryd.f49 0) Q st:=by
  obtain ⟨g24,g25,g26,g4⟩:=h0
  refine wLoop (fun N st=>∃ k,k + N = l.length ∧ (l.take k).all dig = true ∧ st.s 24 = .p (.sl 1 (l.map fun b=>[.v (.int .u8 b.toNat)])) ∧ st.s 25 = .p (I l.length) ∧ st.s 26 = .p (I k) ∧ st.s 4 = .p (I (dv (l.take k)))) l.length ⟨0,by simp,by simp,g24,g25,g26,g4⟩ fun K N st hL ⟨k,hk,ha,g24,g25,g26,g4⟩=>?_
  by_cases hlt : k < l.length
  · have hw := wrapS k _ hlt (by omega)
    have hs:=dv_snoc l k hlt
    have has:=all_snoc l k hlt
    have hb:=dv_13 hl ha
    rw [ha,Bool.true_and] at has
    by_cases d1 : (l[k].toNat : Int) < 48
    · have hn : l.all dig = false := by
        cases h : l.all dig with
        | false=>rfl
        | true=>have:=all_take (k + 1) h;rw [has] at this;simp [dig] at this;omega
      repeat' first|(refine hK _ ?_;clear hK)|(refine hK _ _ ?_;clear hK)|(clear hK;refine hK _ ?_;clear hK)|(clear hK;clear hK;refine hK _ ?_;clear hK)|(clear hK;clear hK;clear hK;refine hK _ ?_;clear hK)|(clear hK;clear hK;clear hK;clear hK;refine hK _ ?_;clear hK)|(refine zI fun K hK=>?_)|((first | refine zG ?_ | refine zN rfl (by kernel_rfl) ?_ | refine zM ?_ | refine zJ (by kernel_rfl) ?_);simp only [xC,xB,strip])|((first | refine wIs fun K hK=>?_ | refine wOs fun K hK=>?_ | refine wQs fun K hK=>?_ | refine zT ?_ | refine zU ?_ | refine zV ?_ | refine zL ?_);simp [g24,g25,g26,g4,hlt,hw,d1])|(refine wIn ?_;refine And.intro (by kernel_rfl) ?_;try simp only [zX])|(first | refine zQ ?_ | refine zS ?_)|((first | refine zH ?_ | refine zO ?_ | refine zP ?_);try simp)|((first | refine zR ?_ | refine wOn ?_ | refine wQn ?_);try simp only [zX])
      exact hret hn _ ⟨by simp,by simp⟩
    by_cases d2 : 57 < (l[k].toNat : Int)
    · have hn : l.all dig = false := by
        cases h : l.all dig with
        | false=>rfl
        | true=>have:=all_take (k + 1) h;rw [has] at this;simp [dig] at this;omega
      repeat' first|(refine hK _ ?_;clear hK)|(refine hK _ _ ?_;clear hK)|(clear hK;refine hK _ ?_;clear hK)|(clear hK;clear hK;refine hK _ ?_;clear hK)|(clear hK;clear hK;clear hK;refine hK _ ?_;clear hK)|(clear hK;clear hK;clear hK;clear hK;refine hK _ ?_;clear hK)|(refine zI fun K hK=>?_)|((first | refine zG ?_ | refine zN rfl (by kernel_rfl) ?_ | refine zM ?_ | refine zJ (by kernel_rfl) ?_);simp only [xC,xB,strip])|((first | refine wIs fun K hK=>?_ | refine wOs fun K hK=>?_ | refine wQs fun K hK=>?_ | refine zT ?_ | refine zU ?_ | refine zV ?_ | refine zL ?_);simp [g24,g25,g26,g4,hlt,hw,d1,d2])|(refine wIn ?_;refine And.intro (by kernel_rfl) ?_;try simp only [zX])|(first | refine zQ ?_ | refine zS ?_)|((first | refine zH ?_ | refine zO ?_ | refine zP ?_);try simp)|((first | refine zR ?_ | refine wOn ?_ | refine wQn ?_);try simp only [zX])
      exact hret hn _ ⟨by simp,by simp⟩
    · have hd : dig l[k] = true := by simp [dig]; omega
      rw [hd] at has
      have w1 : IntKind.i64.wrap (10 * dv (l.take k)) = 10 * dv (l.take k):=yI (by omega) (by omega)
      have w2 : IntKind.u8.wrap ((l[k].toNat : Int) - 48) = (l[k].toNat : Int) - 48:=by simp [IntKind.wrap,IntKind.bits,IntKind.signed];omega
      have w3 : IntKind.i64.wrap ((l[k].toNat : Int) - 48) = (l[k].toNat : Int) - 48:=yI (by omega) (by omega)
      have w4 : IntKind.i64.wrap (10 * dv (l.take k) + ((l[k].toNat : Int) - 48)) = dv (l.take (k + 1)):=by rw [hs];exact yI (by omega) (by omega)
      generalize dv (l.take k) = a at g4 w1 w4
      repeat' first|(refine hK _ ?_;clear hK)|(refine hK _ _ ?_;clear hK)|(clear hK;refine hK _ ?_;clear hK)|(clear hK;clear hK;refine hK _ ?_;clear hK)|(clear hK;clear hK;clear hK;refine hK _ ?_;clear hK)|(clear hK;clear hK;clear hK;clear hK;refine hK _ ?_;clear hK)|(refine zI fun K hK=>?_)|((first | refine zG ?_ | refine zN rfl (by kernel_rfl) ?_ | refine zM ?_ | refine zJ (by kernel_rfl) ?_);simp only [xC,xB,strip])|((first | refine wIs fun K hK=>?_ | refine wOs fun K hK=>?_ | refine wQs fun K hK=>?_ | refine zT ?_ | refine zU ?_ | refine zV ?_ | refine zL ?_);simp [g24,g25,g26,g4,hlt,hw,d1,d2,w1,w2,w3,w4])|(refine wIn ?_;refine And.intro (by kernel_rfl) ?_;try simp only [zX])|(first | refine zQ ?_ | refine zS ?_)|((first | refine zH ?_ | refine zO ?_ | refine zP ?_);try simp)|((first | refine zR ?_ | refine wOn ?_ | refine wQn ?_);try simp only [zX])
      refine hL _ (N - 1) (by omega) ⟨k + 1,by omega,has,?_⟩
      simp [g24,g25,g26,g4,hw,w1,w2,w3,w4]
  · have e : l.take k = l := List.take_of_length_le (by omega)
    rw [e] at ha g4
    repeat' first|(refine hK _ ?_;clear hK)|(refine hK _ _ ?_;clear hK)|(clear hK;refine hK _ ?_;clear hK)|(clear hK;clear hK;refine hK _ ?_;clear hK)|(clear hK;clear hK;clear hK;refine hK _ ?_;clear hK)|(clear hK;clear hK;clear hK;clear hK;refine hK _ ?_;clear hK)|(refine zI fun K hK=>?_)|((first | refine zG ?_ | refine zN rfl (by kernel_rfl) ?_ | refine zM ?_ | refine zJ (by kernel_rfl) ?_);simp only [xC,xB,strip])|((first | refine wIs fun K hK=>?_ | refine wOs fun K hK=>?_ | refine wQs fun K hK=>?_ | refine zT ?_ | refine zU ?_ | refine zV ?_ | refine zL ?_);simp [g24,g25,g26,g4,hlt])|(refine wIn ?_;refine And.intro (by kernel_rfl) ?_;try simp only [zX])|(first | refine zQ ?_ | refine zS ?_)|((first | refine zH ?_ | refine zO ?_ | refine zP ?_);try simp)|((first | refine zR ?_ | refine wOn ?_ | refine wQn ?_);try simp only [zX])
    exact hex ha _ (by simp [g4])
theorem num_cons {a : UInt8} {r : List UInt8} (h13 : ¬ 13 < r.length + 1) (hbad : ¬ ((a.toNat : Int) = 48 ∧ r ≠ [])) :
    num (a :: r) = if (a :: r).all dig = true then (dv (a :: r),decide (dv (a :: r) ≤ 1099511627776)) else (0,false):=by
  have hb : ¬ (a = 48 ∧ ¬ r = []):=fun ⟨h1,h2⟩=>hbad ⟨by subst h1;rfl,h2⟩
  have hB : badN (a :: r) = !(a :: r).all dig := by
    have : decide ((a :: r) = [] ∨ 13 < (a :: r).length ∨ ((a :: r)[0]? = some 48 ∧ (a :: r) ≠ [48])) = false := by
      rw [decide_eq_false_iff_not]
      rintro (g | g | ⟨g,g'⟩)
      · exact absurd g (by simp)
      · exact h13 g
      · simp only [List.getElem?_cons_zero, xA] at g
        exact hb ⟨g,fun h=>g' (by rw [g,h])⟩
    unfold badN
    rw [this,Bool.false_or]
  unfold num
  rw [hB]
  cases h : (a :: r).all dig <;> simp
set_option maxHeartbeats 2000000 in
theorem number_con (l : List UInt8) (hl : l.length ≤ 9223372036854775807) : zD Tryd.prog 49 [.p (SB l)] (.tup [.p (I (num l).1), .p (B (num l).2)]) := by
  by_cases h13 : 13 < l.length
  · have hN : num l = (0, false) := by simp [num, badN, h13]
    have h13' : (13 : Int) < l.length:=by omega
    have h1' : ¬ (l.length : Int) < 1:=by omega
    have hne : ¬ l = []:=by intro h;subst h;simp at h13
    have hne' : (l == []) = false:=by simpa using hne
    rw [hN]
    refine zK Tryd.tab Tryd.mixed Tryd.func49 rfl rfl Tryd.ntmps49 (by simp) (by simp) fun Q hr hn=>?_
    repeat' first|(refine hK _ ?_;clear hK)|(refine hK _ _ ?_;clear hK)|(clear hK;refine hK _ ?_;clear hK)|(clear hK;clear hK;refine hK _ ?_;clear hK)|(clear hK;clear hK;clear hK;refine hK _ ?_;clear hK)|(clear hK;clear hK;clear hK;clear hK;refine hK _ ?_;clear hK)|(refine zI fun K hK=>?_)|((first | refine zG ?_ | refine zN rfl (by kernel_rfl) ?_ | refine zM ?_ | refine zJ (by kernel_rfl) ?_);simp only [xC,xB,strip])|((first | refine wIs fun K hK=>?_ | refine wOs fun K hK=>?_ | refine wQs fun K hK=>?_ | refine zT ?_ | refine zU ?_ | refine zV ?_ | refine zL ?_);simp [h13,h13',h1',hne,hne'])|(refine wIn ?_;refine And.intro (by kernel_rfl) ?_;try simp only [zX])|(first | refine zQ ?_ | refine zS ?_)|((first | refine zH ?_ | refine zO ?_ | refine zP ?_);try simp)|((first | refine zR ?_ | refine wOn ?_ | refine wQn ?_);try simp only [zX])
    all_goals apply hr
    all_goals simp [Tryd.f49]
  have h13' : ¬ (13 : Int) < l.length:=by omega
  cases l with
  | nil =>
    have hN : num [] = (0,false):=rfl
    rw [hN]
    refine zK Tryd.tab Tryd.mixed Tryd.func49 rfl rfl Tryd.ntmps49 (by simp) (by simp) fun Q hr hn=>?_
    repeat' first|(refine hK _ ?_;clear hK)|(refine hK _ _ ?_;clear hK)|(clear hK;refine hK _ ?_;clear hK)|(clear hK;clear hK;refine hK _ ?_;clear hK)|(clear hK;clear hK;clear hK;refine hK _ ?_;clear hK)|(clear hK;clear hK;clear hK;clear hK;refine hK _ ?_;clear hK)|(refine zI fun K hK=>?_)|((first | refine zG ?_ | refine zN rfl (by kernel_rfl) ?_ | refine zM ?_ | refine zJ (by kernel_rfl) ?_);simp only [xC,xB,strip])|((first | refine wIs fun K hK=>?_ | refine wOs fun K hK=>?_ | refine wQs fun K hK=>?_ | refine zT ?_ | refine zU ?_ | refine zV ?_ | refine zL ?_);simp)|(refine wIn ?_;refine And.intro (by kernel_rfl) ?_;try simp only [zX])|(first | refine zQ ?_ | refine zS ?_)|((first | refine zH ?_ | refine zO ?_ | refine zP ?_);try simp)|((first | refine zR ?_ | refine wOn ?_ | refine wQn ?_);try simp only [zX])
    all_goals apply hr
    all_goals simp [Tryd.f49]
  | cons a r =>
    have hlp:=fun {Q} {st} h h' h''=>numL (Q:=Q) (st:=st) (a :: r) (by omega) h h' h''
    simp only [List.length_cons] at h13 h13' hlp hl
    have h13'' : ¬ (13 : Int) < (r.length : Int) + 1:=by omega
    have h1'' : ¬ (r.length : Int) + 1 < 1:=by omega
    by_cases hbad : (a.toNat : Int) = 48 ∧ r ≠ []
    · obtain ⟨h48, hr0⟩ := hbad
      have ha : a = 48:=UInt8.toNat_inj.1 (show a.toNat = 48 by omega)
      subst ha
      have hN : num (48 :: r) = (0,false):=by simp [num,badN,hr0]
      have hl2 : r.length ≤ 9223372036854775806:=by omega
      have hr1 : (1 : Int) < (r.length : Int) + 1:=by have:=List.length_pos_iff.2 hr0;omega
      rw [hN]
      refine zK Tryd.tab Tryd.mixed Tryd.func49 rfl rfl Tryd.ntmps49 (by simp) (by simp) fun Q hr hn=>?_
      repeat' first|(refine hK _ ?_;clear hK)|(refine hK _ _ ?_;clear hK)|(clear hK;refine hK _ ?_;clear hK)|(clear hK;clear hK;refine hK _ ?_;clear hK)|(clear hK;clear hK;clear hK;refine hK _ ?_;clear hK)|(clear hK;clear hK;clear hK;clear hK;refine hK _ ?_;clear hK)|(refine zI fun K hK=>?_)|((first | refine zG ?_ | refine zN rfl (by kernel_rfl) ?_ | refine zM ?_ | refine zJ (by kernel_rfl) ?_);simp only [xC,xB,strip])|((first | refine wIs fun K hK=>?_ | refine wOs fun K hK=>?_ | refine wQs fun K hK=>?_ | refine zT ?_ | refine zU ?_ | refine zV ?_ | refine zL ?_);simp [h13'',h1'',hr0,hr1,hl2])|(refine wIn ?_;refine And.intro (by kernel_rfl) ?_;try simp only [zX])|(first | refine zQ ?_ | refine zS ?_)|((first | refine zH ?_ | refine zO ?_ | refine zP ?_);try simp)|((first | refine zR ?_ | refine wOn ?_ | refine wQn ?_);try simp only [zX])
      all_goals apply hr
      all_goals simp [Tryd.f49]
    · have hN := num_cons (a := a) (r := r) (by omega) hbad
      have hl2 : r.length ≤ 9223372036854775806:=by omega
      have hcc:=counts_con (dv (a :: r))
      have xI:=fun h=>(dv_13 (l:=a :: r) (k:=r.length + 1) (by simp;omega) h)
      rw [List.take_of_length_le (by simp)] at xI
      by_cases h48 : (a.toNat : Int) = 48
      · have ha : a = 48 := UInt8.toNat_inj.1 (show a.toNat = 48 by omega)
        subst ha
        have hr0 : r = [] := by
          by_cases h : r = []
          · exact h
          · exact absurd ⟨rfl,h⟩ hbad
        subst hr0
        rw [if_pos (by decide)] at hN
        have e1 : dv [48] = 0:=by decide
        rw [e1] at hN hcc hlp
        rw [hN]
        refine zK Tryd.tab Tryd.mixed Tryd.func49 rfl rfl Tryd.ntmps49 (by simp) (by simp) fun Q hr hn=>?_
        repeat' first|(refine hlp ?_ ?_ ⟨by simp,by simp,by simp,by simp⟩)|(refine hK _ ?_;clear hK)|(refine hK _ _ ?_;clear hK)|(clear hK;refine hK _ ?_;clear hK)|(clear hK;clear hK;refine hK _ ?_;clear hK)|(clear hK;clear hK;clear hK;refine hK _ ?_;clear hK)|(clear hK;clear hK;clear hK;clear hK;refine hK _ ?_;clear hK)|(refine zI fun K hK=>?_)|((first | refine zG ?_ | refine zN rfl (by kernel_rfl) ?_ | refine zM ?_ | refine zJ (by kernel_rfl) ?_);simp only [xC,xB,strip])|((first | refine wIs fun K hK=>?_ | refine wOs fun K hK=>?_ | refine wQs fun K hK=>?_ | refine zT ?_ | refine zU ?_ | refine zV ?_ | refine zL ?_);simp)|(refine wIn ?_;refine And.intro (by kernel_rfl) ?_;try simp only [zX])|(first | refine zQ ?_ | refine zS ?_)|((first | refine zH ?_ | refine zO ?_ | refine zP ?_);try simp)|((first | refine zR ?_ | refine wOn ?_ | refine wQn ?_);try simp only [zX])
        · intro hd;exact absurd hd (by decide)
        · intro _ st g4
          simp only [blockA_e,if_true,zX]
          repeat' first|(refine hK _ ?_;clear hK)|(refine hK _ _ ?_;clear hK)|(clear hK;refine hK _ ?_;clear hK)|(clear hK;clear hK;refine hK _ ?_;clear hK)|(clear hK;clear hK;clear hK;refine hK _ ?_;clear hK)|(clear hK;clear hK;clear hK;clear hK;refine hK _ ?_;clear hK)|(refine zI fun K hK=>?_)|((first | refine zG ?_ | refine zN rfl (by kernel_rfl) ?_ | refine zM ?_ | refine zJ (by kernel_rfl) ?_);simp only [xC,xB,strip])|((first | refine wIs fun K hK=>?_ | refine wOs fun K hK=>?_ | refine wQs fun K hK=>?_ | refine zT ?_ | refine zU ?_ | refine zV ?_ | refine zL ?_);simp [g4])|(refine wIn ?_;refine And.intro (by kernel_rfl) ?_;try simp only [zX])|(first | refine zQ ?_ | refine zS ?_)|((first | refine zH ?_ | refine zO ?_ | refine zP ?_);try simp)|((first | refine zR ?_ | refine wOn ?_ | refine wQn ?_);try simp only [zX])|(refine zZ.pure (hcc) rfl ?_)|(refine zZ.lent (hcc) rfl ?_)|(refine zW.pure (hcc) rfl ?_)|(refine zW.lent (hcc) rfl ?_)|(refine zZ.own (hcc) ?_)|(refine zY.pure (hcc) rfl ?_)|(refine zY.lent (hcc) rfl ?_)|(refine zY.own (hcc) ?_)
          all_goals apply hr
          all_goals simp [Tryd.f49,g4]
      · by_cases hr1 : (1 : Int) < (r.length : Int) + 1
        all_goals
          cases hd : (a :: r).all dig
          · rw [hd, if_neg (by simp)] at hN
            rw [hN]
            refine zK Tryd.tab Tryd.mixed Tryd.func49 rfl rfl Tryd.ntmps49 (by simp) (by simp) fun Q hr hn=>?_
            repeat' first|(refine hlp ?_ ?_ ⟨by simp,by simp,by simp,by simp⟩)|(refine hK _ ?_;clear hK)|(refine hK _ _ ?_;clear hK)|(clear hK;refine hK _ ?_;clear hK)|(clear hK;clear hK;refine hK _ ?_;clear hK)|(clear hK;clear hK;clear hK;refine hK _ ?_;clear hK)|(clear hK;clear hK;clear hK;clear hK;refine hK _ ?_;clear hK)|(refine zI fun K hK=>?_)|((first | refine zG ?_ | refine zN rfl (by kernel_rfl) ?_ | refine zM ?_ | refine zJ (by kernel_rfl) ?_);simp only [xC,xB,strip])|((first | refine wIs fun K hK=>?_ | refine wOs fun K hK=>?_ | refine wQs fun K hK=>?_ | refine zT ?_ | refine zU ?_ | refine zV ?_ | refine zL ?_);simp [h13'',h1'',h48,hl2,hr1])|(refine wIn ?_;refine And.intro (by kernel_rfl) ?_;try simp only [zX])|(first | refine zQ ?_ | refine zS ?_)|((first | refine zH ?_ | refine zO ?_ | refine zP ?_);try simp)|((first | refine zR ?_ | refine wOn ?_ | refine wQn ?_);try simp only [zX])
            · intro _ st ⟨g2, g3⟩
              simp only [blockA_r,thenA_r]
              apply hr
              simp [Tryd.f49,g2,g3]
            · intro h;rw [hd] at h;simp at h
          · rw [hd, if_pos rfl] at hN
            have hp:=(xI hd).1
            have hcc' : decide (0 ≤ dv (a :: r) ∧ dv (a :: r) ≤ 1099511627776) = decide (dv (a :: r) ≤ 1099511627776):=by simp [hp]
            rw [hcc'] at hcc
            rw [hN]
            generalize dv (a :: r) = D at hcc hlp
            refine zK Tryd.tab Tryd.mixed Tryd.func49 rfl rfl Tryd.ntmps49 (by simp) (by simp) fun Q hr hn=>?_
            repeat' first|(refine hlp ?_ ?_ ⟨by simp,by simp,by simp,by simp⟩)|(refine hK _ ?_;clear hK)|(refine hK _ _ ?_;clear hK)|(clear hK;refine hK _ ?_;clear hK)|(clear hK;clear hK;refine hK _ ?_;clear hK)|(clear hK;clear hK;clear hK;refine hK _ ?_;clear hK)|(clear hK;clear hK;clear hK;clear hK;refine hK _ ?_;clear hK)|(refine zI fun K hK=>?_)|((first | refine zG ?_ | refine zN rfl (by kernel_rfl) ?_ | refine zM ?_ | refine zJ (by kernel_rfl) ?_);simp only [xC,xB,strip])|((first | refine wIs fun K hK=>?_ | refine wOs fun K hK=>?_ | refine wQs fun K hK=>?_ | refine zT ?_ | refine zU ?_ | refine zV ?_ | refine zL ?_);simp [h13'',h1'',h48,hl2,hr1])|(refine wIn ?_;refine And.intro (by kernel_rfl) ?_;try simp only [zX])|(first | refine zQ ?_ | refine zS ?_)|((first | refine zH ?_ | refine zO ?_ | refine zP ?_);try simp)|((first | refine zR ?_ | refine wOn ?_ | refine wQn ?_);try simp only [zX])
            · intro h;rw [hd] at h;simp at h
            · intro _ st g4
              simp only [blockA_e,if_true,zX]
              repeat' first|(refine hK _ ?_;clear hK)|(refine hK _ _ ?_;clear hK)|(clear hK;refine hK _ ?_;clear hK)|(clear hK;clear hK;refine hK _ ?_;clear hK)|(clear hK;clear hK;clear hK;refine hK _ ?_;clear hK)|(clear hK;clear hK;clear hK;clear hK;refine hK _ ?_;clear hK)|(refine zI fun K hK=>?_)|((first | refine zG ?_ | refine zN rfl (by kernel_rfl) ?_ | refine zM ?_ | refine zJ (by kernel_rfl) ?_);simp only [xC,xB,strip])|((first | refine wIs fun K hK=>?_ | refine wOs fun K hK=>?_ | refine wQs fun K hK=>?_ | refine zT ?_ | refine zU ?_ | refine zV ?_ | refine zL ?_);simp [g4])|(refine wIn ?_;refine And.intro (by kernel_rfl) ?_;try simp only [zX])|(first | refine zQ ?_ | refine zS ?_)|((first | refine zH ?_ | refine zO ?_ | refine zP ?_);try simp)|((first | refine zR ?_ | refine wOn ?_ | refine wQn ?_);try simp only [zX])|(refine zZ.pure (hcc) rfl ?_)|(refine zZ.lent (hcc) rfl ?_)|(refine zW.pure (hcc) rfl ?_)|(refine zW.lent (hcc) rfl ?_)|(refine zZ.own (hcc) ?_)|(refine zY.pure (hcc) rfl ?_)|(refine zY.lent (hcc) rfl ?_)|(refine zY.own (hcc) ?_)
              all_goals apply hr
              all_goals simp [Tryd.f49,g4]
end Go.Proofs.YtjekjpgccnhobaaDoor
/-
  DERIVED: THE SHELF's CONTRACTS AT THIS DUMP,IN PLAIN WORDS (tools/lay-plain.mjs out of 'YtjekjpgccnhobaaDoorShelf.lean',which tools/lay-shelf.mjs wrote): THE SAME DECLARATIONS UNDER THE SAME NAMES: 'import','namespace','open','def','theorem' AND NOTHING ELSE: no command of the shelf's: FOR A HAND-IN. Each laying: the table of numbers ('.._ren') and one theorem,a field a fact of the dump's own or the kernel's comparison;each contract: ONE APPLICATION.
-/
namespace Go.Proofs
open Go.Shelf
def Tryd.laysM171_ren : Go.Shelf.Ren := ⟨fun | 171 => 39 | 243 => 47 | 246 => 55 | 283 => 63 | 284 => 64 | 285 => 65 | 286 => 66 | 129 => 73 | 317 => 72 | 318 => 74 | 319 => 75 | 320 => 76 | 337 => 79 | 338 => 80 | n => n, fun | 3 => 3 | 9 => 9 | 2 => 2 | 4 => 4 | 171 => 83 | 0 => 0 | 53 => 45 | 37 => 78 | 5 => 5 | 173 => 86 | 212 => 90 | 51 => 91 | 20 => 20 | 213 => 92 | 46 => 76 | 232 => 101 | 233 => 102 | n => n, fun | 17 => 1 | 18 => 4 | 19 => 5 | n => n⟩
theorem Tryd.laysM171 : Go.Proofs.LaysM.n171 Tryd.prog Tryd.laysM171_ren := {
  mixed:=by kernel_rfl
  f129:=Tryd.func73.trans (congrArg some (by kernel_rfl))
  f171:=Tryd.func39.trans (congrArg some (by kernel_rfl))
  f243:=Tryd.func47.trans (congrArg some (by kernel_rfl))
  f246:=Tryd.func55.trans (congrArg some (by kernel_rfl))
  f283:=Tryd.func63.trans (congrArg some (by kernel_rfl))
  f284:=Tryd.func64.trans (congrArg some (by kernel_rfl))
  f285:=Tryd.func65.trans (congrArg some (by kernel_rfl))
  f286:=Tryd.func66.trans (congrArg some (by kernel_rfl))
  f317:=Tryd.func72.trans (congrArg some (by kernel_rfl))
  f318:=Tryd.func74.trans (congrArg some (by kernel_rfl))
  f319:=Tryd.func75.trans (congrArg some (by kernel_rfl))
  f320:=Tryd.func76.trans (congrArg some (by kernel_rfl))
  f337:=Tryd.func79.trans (congrArg some (by kernel_rfl))
  f338:=Tryd.func80.trans (congrArg some (by kernel_rfl))
  t0:=Tryd.underlying0
  a0:=Tryd.isAgg0
  z0:=Tryd.sizeOf0
  v0:=Tryd.zeroValue0
  t2:=Tryd.underlying2
  a2:=Tryd.isAgg2
  z2:=Tryd.sizeOf2
  v2:=Tryd.zeroValue2
  t3:=Tryd.underlying3
  a3:=Tryd.isAgg3
  z3:=Tryd.sizeOf3
  v3:=Tryd.zeroValue3
  t4:=Tryd.underlying4
  a4:=Tryd.isAgg4
  z4:=Tryd.sizeOf4
  v4:=Tryd.zeroValue4
  t5:=Tryd.underlying5
  a5:=Tryd.isAgg5
  z5:=Tryd.sizeOf5
  v5:=Tryd.zeroValue5
  t9:=Tryd.underlying9
  a9:=Tryd.isAgg9
  z9:=Tryd.sizeOf9
  v9:=Tryd.zeroValue9
  t20:=Tryd.underlying20
  a20:=Tryd.isAgg20
  z20:=Tryd.sizeOf20
  v20:=Tryd.zeroValue20
  t37:=Tryd.underlying78
  a37:=Tryd.isAgg78
  z37:=Tryd.sizeOf78
  v37:=Tryd.zeroValue78
  t46:=Tryd.underlying76
  a46:=Tryd.isAgg76
  z46:=Tryd.sizeOf76
  v46:=Tryd.zeroValue76
  t51:=Tryd.underlying91
  a51:=Tryd.isAgg91
  z51:=Tryd.sizeOf91
  v51:=Tryd.zeroValue91
  t53:=Tryd.underlying45
  a53:=Tryd.isAgg45
  z53:=Tryd.sizeOf45
  v53:=Tryd.zeroValue45
  t171:=Tryd.underlying83
  a171:=Tryd.isAgg83
  z171:=Tryd.sizeOf83
  v171:=Tryd.zeroValue83
  t173:=Tryd.underlying86
  a173:=Tryd.isAgg86
  z173:=Tryd.sizeOf86
  v173:=Tryd.zeroValue86
  t212:=Tryd.underlying90
  a212:=Tryd.isAgg90
  z212:=Tryd.sizeOf90
  v212:=Tryd.zeroValue90
  t213:=Tryd.underlying92
  a213:=Tryd.isAgg92
  z213:=Tryd.sizeOf92
  t232:=Tryd.underlying101
  a232:=Tryd.isAgg101
  z232:=Tryd.sizeOf101
  v232:=Tryd.zeroValue101
  t233:=Tryd.underlying102
  a233:=Tryd.isAgg102
  z233:=Tryd.sizeOf102
  v233:=Tryd.zeroValue102
  g17:=by kernel_rfl
  g18:=by kernel_rfl
  g19:=by kernel_rfl
  i0:=by kernel_rfl
  i2:=by kernel_rfl
  i3:=by kernel_rfl
  i4:=by kernel_rfl
  i5:=by kernel_rfl
  i9:=by kernel_rfl
  i20:=by kernel_rfl
  i37:=by kernel_rfl
  i46:=by kernel_rfl
  i51:=by kernel_rfl
  i53:=by kernel_rfl
  i171:=by kernel_rfl
  i173:=by kernel_rfl
  i212:=by kernel_rfl
  i232:=by kernel_rfl
  i233:=by kernel_rfl
  m17:=by kernel_rfl
  m18:=by kernel_rfl
  m19:=by kernel_rfl }
open Go.RowKit Go.Sort Go.Lib in
theorem Tryd.strconv_Itoa (n : Int) (h0 : -9223372036854775808 ≤ n) (h1 : n ≤ 9223372036854775807) (w : World) (htab : Lib.TabIs Tryd.prog w "internal/strconv.uint64pow10" .u64 Lib.pow10Tab) :
    Calls Tryd.prog 39 #[.int .i64 n] w fun e w'=>e = .returned (.string ⟨(Lib.itoa n).toArray⟩) ∧ ∃ k os,w' = grow (w.drewN k) os:=Any.strconv_Itoa Tryd.laysM171 n h0 h1 w htab
end Go.Proofs
/- strconv.Itoa, by the shelf's contract (the text <Name>Shelf). -/
namespace Go.Proofs.YtjekjpgccnhobaaDoor
set_option linter.unusedSimpArgs false
set_option linter.unusedVariables false
open Go Go.Av
theorem zD.shelf [Glob] {P : Program} {g : FuncId} (he : Go.Av.Enters P g) (xs : List Value) {z : Value} (hz : scal z = true)
    (hrun : ∀ (F : Nat → Prop) (w : World) (m : Nm),Hp w F m (nmF [] []) → Calls P g xs.toArray w fun e w'=>e = .returned z ∧ Keeps (fun _=>False) w w') :
    zD P g (xs.map fun x=>.p (.v x)) (.p (.v z)):=by
  intro F w m ys hp hl har
  have hl' : ys.length = xs.length:=by simpa using hl
  have hys : ys = xs := by
    apply List.ext_getElem?
    intro i
    by_cases hi : i < xs.length
    · obtain ⟨y, h1, h2⟩ := har i (.p (.v xs[i])) (by simp [hi])
      have h3 : RP w _ (.v xs[i]) y:=h2
      cases h3
      rw [h1,List.getElem?_eq_getElem hi]
    · rw [List.getElem?_eq_none (by omega),List.getElem?_eq_none (by omega)]
  subst hys
  refine .inl ⟨he,(hrun F w m hp).mono fun e w' ⟨h1,hk⟩=>?_⟩
  subst h1
  refine ⟨hk.mono fun k h=>h.elim,z,m,rfl,?_,fun n k ho=>by simp [owns,yM] at ho,fun _ _ _=>rfl,RV.of0 (v:=.p _) (.v _ hz)⟩
  exact Hp.none (fun k hk'=>Nat.lt_of_lt_of_le (hp.fold k hk') hk.size) yM fun g e he=>(hp.glob g e he).move hk.size (fun k hlt _=>hk.block k hlt id) fun k _ hf=>.inl hf
def rgt (n : Int) : Bool := decide (0 ≤ n ∧ n ≤ 1099511627776)
theorem itoa_con {n : Int} (h : rgt n = true) : zD Tryd.prog 39 [.p (I n)] (.p (SB (Go.Lib.itoa n))) := by
  simp only [rgt,decide_eq_true_eq] at h
  refine zD.shelf ⟨Tryd.f39,Tryd.func39,rfl,rfl⟩ [.int .i64 n] rfl fun F w m hp=>?_
  have hg : Glob.g 1 = some (Go.Lib.pow10Tab.map fun z=>PV.v (.int .u64 z)):=by kernel_rfl
  have ht := (hp.glob 1 _ hg).tab (P := Tryd.prog) (name := "internal/strconv.uint64pow10") (by kernel_rfl)
  refine (Tryd.strconv_Itoa n (by omega) (by omega) w ht).mono fun e w' ⟨h1,k,os,h2⟩=>⟨h1,?_⟩
  subst h2
  refine ⟨rfl,rfl,rfl,?_,fun i hi _=>?_⟩
  · show w.heap.size ≤ (w.heap ++ os).size
    simp
  · show (w.heap ++ os)[i]? = w.heap[i]?
    exact Array.getElem?_append_left hi
end Go.Proofs.YtjekjpgccnhobaaDoor
