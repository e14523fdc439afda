/- Texts that the proof needs: DK1 DK2 DK3 DK4 DK5. -/
import Derived.Test.YtbeofcbehhljdaaGreatDoorP23JournalCrash
import Derived.Test.YtbeofcbehhljdaaGreatDoorP24JournalCrash
namespace Go.Proofs.YtbeofcbehhljdaaGreatDoor
set_option linter.unusedSimpArgs false
set_option linter.unusedVariables false
open Go Go.Av
attribute [local irreducible] Go.Av.CallK Go.Av.CallE Go.Av.CallQ Go.Av.CallF Go.Av.CallR Go.Av.CallH Go.Av.Con
abbrev RConD (g : FuncId) (args : List V) (e c : Nat) (l : List (List PV)) : Prop := Con Tryz.prog g args [] (.ret (.row 2048) [.row e c l] [])
set_option maxHeartbeats 1000000 in
theorem joinedG_con (X Y : List (List PV)) (hl : X.length + Y.length <= 100000000) : RConD 32 [.p (.sl 1 X), .p (.sl 1 Y)] 5 1 (X ++ Y) := by
 have hw : IntKind.i64.wrap ((X.length : Int) + (Y.length : Int)) = ((X.length + Y.length : Nat) : Int) := by rw [wrap_id] <;> omega
 refine wBodyR Tryz.tab Tryz.mixed Tryz.func32 rfl rfl Tryz.ntmps32 rfl (by simp) (by simp) fun Q hr hn => ?_
 repeat' first | (rw [if_pos ⟨by omega, by omega⟩]) | (refine And.intro (by omega) ?_) | (refine hK _ ?_; clear hK) | (refine hK _ _ ?_; clear hK) | (clear hK; refine hK _ ?_; clear hK) | (clear hK; clear hK; refine hK _ ?_; clear hK) | (clear hK; clear hK; clear hK; refine hK _ ?_; clear hK) | (clear hK; clear hK; clear hK; clear hK; refine hK _ ?_; clear hK) | (refine wSeq fun K hK => ?_) | ((first | refine wReg ?_ | refine wDrwQ rfl (by kernel_rfl) ?_ | refine wDrwI ?_ | refine wDrw (by kernel_rfl) ?_); simp only [List.map_cons, List.map_nil, strip]) | ((first | refine wIs fun K hK => ?_ | refine wOs fun K hK => ?_ | refine wQs fun K hK => ?_ | refine CallK_plain ?_ | refine CallQ_plain ?_ | refine CallR_plain ?_ | refine wCond ?_); simp [hw]) | (refine wIn ?_; refine And.intro (by kernel_rfl) ?_; try simp only [thenA_n]) | (first | refine wBlock ?_ | refine wScope ?_) | ((first | refine wRet ?_ | refine wExit ?_ | refine wSkip ?_); try simp) | ((first | refine wLabel ?_ | refine wOn ?_ | refine wQn ?_); try simp only [thenA_n])
 all_goals refine hr _ 11 (by simp) (by simp; omega) (by omega)
theorem joined_con (a b : List UInt8) (hl : a.length + b.length <= 100000000) : RConD 32 [.p (.sl 1 (by8 a)), .p (.sl 1 (by8 b))] 5 1 (by8 (a ++ b)) := by
 have c := joinedG_con (by8 a) (by8 b) (by simpa using hl)
 rw [by8_app] at c
 exact c
structure Fl where
 (n d : List UInt8)
 (s : Int)
 deriving DecidableEq
def Fl.cells (x : Fl) : List PV := [SB x.n, .sl 1 (by8 x.d), I x.s]
def fls (l : List Fl) : List (List PV) := l.map Fl.cells
@[simp] theorem fls_len (l : List Fl) : (fls l).length = l.length := by simp [fls]
@[simp] theorem fls_getElem (l : List Fl) (k : Nat) (h : k < (fls l).length) : (fls l)[k] = [SB (l[k]'(by simpa using h)).n, .sl 1 (by8 (l[k]'(by simpa using h)).d), I (l[k]'(by simpa using h)).s] := by simp [fls, Fl.cells]
theorem fls_get {l : List Fl} {k : Nat} (h : k < l.length) : (fls l)[k]? = some [SB l[k].n, .sl 1 (by8 l[k].d), I l[k].s] := by simp [fls, h, Fl.cells]
theorem fls_set (l : List Fl) (k : Nat) (x : Fl) : (fls l).set k [SB x.n, .sl 1 (by8 x.d), I x.s] = fls (l.set k x) := by simp [fls, Fl.cells, List.map_set]
theorem fls_take (l : List Fl) (k : Nat) : (fls l).take k = fls (l.take k) := by simp [fls, List.map_take]
theorem fls_drop (l : List Fl) (k : Nat) : (fls l).drop k = fls (l.drop k) := by simp [fls, List.map_drop]
theorem fls_snoc (l : List Fl) (x : Fl) : fls l ++ [[SB x.n, .sl 1 (by8 x.d), I x.s]] = fls (l ++ [x]) := by simp [fls, Fl.cells]
structure Dk where
 (fs : List Fl)
 (cap fuse : Int)
 (dn : Bool)
 deriving DecidableEq
def Dk.cells (d : Dk) : List PV := [.sl 3 (fls d.fs), I d.cap, I d.fuse, B d.dn]
structure OkD (d : Dk) : Prop where
 n : d.fs.length <= 100000
 d : ∀ f ∈ d.fs, f.d.length <= 10000000
set_option maxHeartbeats 2000000 in
theorem own13_con (d : Dk) (hk : OkD d) : Con Tryz.prog 28 [.p (.agg d.cells)] [] (.ret (.ag [.row 2048, .p (I d.cap), .p (I d.fuse), .p (B d.dn)]) [.row 62 3 (fls d.fs)] []) := by
 obtain ⟨fs, cap, fuse, dn⟩ := d
 obtain ⟨h1, h2⟩ := hk
 simp only at h1 h2
 unfold Dk.cells
 dsimp only
 have e0 : ∀ Z : List (List PV), Z.length = fs.length -> fls fs ++ Z.drop fs.length = fls fs := fun Z hz => by rw [List.drop_of_length_le (by omega), List.append_nil]
 refine wBodyG Tryz.tab Tryz.mixed Tryz.func28 rfl rfl Tryz.ntmps28 (by simp) (by simp) fun Q hr hn hp => ?_
 repeat' first | (rw [if_pos ⟨by omega, by omega⟩]) | (refine And.intro (by omega) ?_) | (refine hK _ ?_; clear hK) | (refine hK _ _ ?_; clear hK) | (clear hK; refine hK _ ?_; clear hK) | (clear hK; clear hK; refine hK _ ?_; clear hK) | (clear hK; clear hK; clear hK; refine hK _ ?_; clear hK) | (clear hK; clear hK; clear hK; clear hK; refine hK _ ?_; clear hK) | (refine wSeq fun K hK => ?_) | ((first | refine wReg ?_ | refine wDrwQ rfl (by kernel_rfl) ?_ | refine wDrwI ?_ | refine wDrw (by kernel_rfl) ?_); simp only [List.map_cons, List.map_nil, strip]) | ((first | refine wIs fun K hK => ?_ | refine wOs fun K hK => ?_ | refine wQs fun K hK => ?_ | refine CallK_plain ?_ | refine CallQ_plain ?_ | refine CallR_plain ?_ | refine wCond ?_); simp [e0]) | (refine wIn ?_; refine And.intro (by kernel_rfl) ?_; try simp only [thenA_n]) | (first | refine wBlock ?_ | refine wScope ?_) | ((first | refine wRet ?_ | refine wExit ?_ | refine wSkip ?_); try simp) | ((first | refine wLabel ?_ | refine wOn ?_ | refine wQn ?_); try simp only [thenA_n])
 refine wLoop (fun N st => ∃ k, k + N = fs.length /\ st.s 1 = .ptr 1 0 /\ st.b 1 = some (.box 28 [.p (.sl 3 (fls fs)), .p (I cap), .p (I fuse), .p (B dn)]) /\ st.s 2 = .ptr 2 0 /\ st.b 2 = some (.box 28 [.nil 3, .p (I 0), .p (I 0), .p (B false)]) /\ st.s 3 = .row 8 /\ st.b 8 = some (.row 62 3 (fls fs)) /\ st.s 14 = .p (I fs.length) /\ st.s 15 = .p (I k)) fs.length ⟨0, by simp [e0]⟩ fun K N st hL ⟨k, hk, g1, b1, g2, b2, g3, b8, g14, g15⟩ => ?_
 by_cases hlt : k < fs.length
 ·have hlt' : (k : Int) < fs.length := by omega
  have hw := wrapS k _ hlt (by omega)
  have he := fls_get hlt
  have c := (joined_con fs[k].d [] (by have := h2 _ (List.getElem_mem hlt); simp; omega)).toPure
  rw [List.append_nil] at c
  have hs := fls_set fs k fs[k]
  rw [List.set_getElem_self] at hs
  simp only [show by8 [] = [] from rfl] at c
  repeat' first | (refine hK _ ?_; clear hK) | (refine hK _ _ ?_; clear hK) | (clear hK; refine hK _ ?_; clear hK) | (clear hK; clear hK; refine hK _ ?_; clear hK) | (clear hK; clear hK; clear hK; refine hK _ ?_; clear hK) | (clear hK; clear hK; clear hK; clear hK; refine hK _ ?_; clear hK) | (refine wSeq fun K hK => ?_) | ((first | refine wReg ?_ | refine wDrwQ rfl (by kernel_rfl) ?_ | refine wDrwI ?_ | refine wDrw (by kernel_rfl) ?_); simp only [List.map_cons, List.map_nil, strip]) | ((first | refine wIs fun K hK => ?_ | refine wOs fun K hK => ?_ | refine wQs fun K hK => ?_ | refine CallK_plain ?_ | refine CallQ_plain ?_ | refine CallR_plain ?_ | refine wCond ?_); simp [g1, b1, g2, b2, g3, b8, g14, g15, hlt, hlt', hw, he, hs]) | (refine wIn ?_; refine And.intro (by kernel_rfl) ?_; try simp only [thenA_n]) | (first | refine wBlock ?_ | refine wScope ?_) | ((first | refine wRet ?_ | refine wExit ?_ | refine wSkip ?_); try simp) | ((first | refine wLabel ?_ | refine wOn ?_ | refine wQn ?_); try simp only [thenA_n]) | (refine CallE.pure (c) rfl ?_) | (refine CallE.lent (c) rfl ?_) | (refine CallF.pure (c) rfl ?_) | (refine CallF.lent (c) rfl ?_) | (refine CallE.own (c) ?_) | (refine CallH.pure (c) rfl ?_) | (refine CallH.lent (c) rfl ?_) | (refine CallH.own (c) ?_)
  refine hL _ (N - 1) (by omega) ⟨k + 1, by omega, ?_⟩
  simp [g1, b1, g2, b2, g3, b8, g14, g15, hw, hs]
 ·have hlt' : ¬ (k : Int) < fs.length := by omega
  repeat' first | (refine hK _ ?_; clear hK) | (refine hK _ _ ?_; clear hK) | (clear hK; refine hK _ ?_; clear hK) | (clear hK; clear hK; refine hK _ ?_; clear hK) | (clear hK; clear hK; clear hK; refine hK _ ?_; clear hK) | (clear hK; clear hK; clear hK; clear hK; refine hK _ ?_; clear hK) | (refine wSeq fun K hK => ?_) | ((first | refine wReg ?_ | refine wDrwQ rfl (by kernel_rfl) ?_ | refine wDrwI ?_ | refine wDrw (by kernel_rfl) ?_); simp only [List.map_cons, List.map_nil, strip]) | ((first | refine wIs fun K hK => ?_ | refine wOs fun K hK => ?_ | refine wQs fun K hK => ?_ | refine CallK_plain ?_ | refine CallQ_plain ?_ | refine CallR_plain ?_ | refine wCond ?_); simp [g1, b1, g2, b2, g3, b8, g14, g15, hlt, hlt']) | (refine wIn ?_; refine And.intro (by kernel_rfl) ?_; try simp only [thenA_n]) | (first | refine wBlock ?_ | refine wScope ?_) | ((first | refine wRet ?_ | refine wExit ?_ | refine wSkip ?_); try simp) | ((first | refine wLabel ?_ | refine wOn ?_ | refine wQn ?_); try simp only [thenA_n])
  all_goals apply hr
  all_goals refine ⟨[8], by simp, by simp, ?_⟩
  all_goals simp [Tryz.f28, outR, outB, renB, g2, b2, b8]
theorem wFrzX [Glob] {P : Program} {T : TypeId -> Option Ty} {N : Nat} {ops : Array Oper} {o : Oper} {rest : List Oper} {st : St} {K : St -> Prop} {Z : Value -> St -> Prop} (b : Nat) {e : TypeId} {cells : List V} {es : List PV} (hb : st.b b = some (.box e cells)) (hp : plC cells = some es) (h : WO P T N ops (o :: rest) (frzx st b es) K Z) : WO P T N ops (o :: rest) st K Z := by
 refine wFrz [.bx b] ?_
 have e0 : frzL st [.bx b] = frzx st b es := by simp only [frzL, gh1, hb, hp]
 rw [e0]
 exact h
theorem find1_con (f : Fl) (nm : List UInt8) : ACon Tryz.prog 50 [.p (.agg f.cells), .rptr [SB nm] 0] (.p (B !Op.bytesLess f.n nm)) := by
 unfold Fl.cells
 refine wBody Tryz.tab Tryz.mixed Tryz.func50 rfl rfl Tryz.ntmps50 (by simp) (by simp) fun Q hr hn => ?_
 repeat' first | (refine hK _ ?_; clear hK) | (refine hK _ _ ?_; clear hK) | (clear hK; refine hK _ ?_; clear hK) | (clear hK; clear hK; refine hK _ ?_; clear hK) | (clear hK; clear hK; clear hK; refine hK _ ?_; clear hK) | (clear hK; clear hK; clear hK; clear hK; refine hK _ ?_; clear hK) | (refine wSeq fun K hK => ?_) | ((first | refine wReg ?_ | refine wDrwQ rfl (by kernel_rfl) ?_ | refine wDrwI ?_ | refine wDrw (by kernel_rfl) ?_); simp only [List.map_cons, List.map_nil, strip]) | ((first | refine wIs fun K hK => ?_ | refine wOs fun K hK => ?_ | refine wQs fun K hK => ?_ | refine CallK_plain ?_ | refine CallQ_plain ?_ | refine CallR_plain ?_ | refine wCond ?_); simp) | (refine wIn ?_; refine And.intro (by kernel_rfl) ?_; try simp only [thenA_n]) | (first | refine wBlock ?_ | refine wScope ?_) | ((first | refine wRet ?_ | refine wExit ?_ | refine wSkip ?_); try simp) | ((first | refine wLabel ?_ | refine wOn ?_ | refine wQn ?_); try simp only [thenA_n])
 all_goals apply hr
 all_goals simp [Tryz.f50]
def fiF (l : List Fl) (nm : List UInt8) : Nat := l.findIdx fun f => !Op.bytesLess f.n nm
theorem fiF_le (l : List Fl) (nm : List UInt8) : fiF l nm <= l.length := List.findIdx_le_length
theorem fiF_of {l : List Fl} {nm : List UInt8} {k : Nat} (hk : k < l.length) (h : Op.bytesLess l[k].n nm = false) (hb : ∀ j (hj : j < k), Op.bytesLess (l[j]'(by omega)).n nm = true) : fiF l nm = k := by
 unfold fiF
 rw [List.findIdx_eq hk]
 exact ⟨by simp [h], fun j hj => by simp [hb j hj]⟩
theorem fiF_none {l : List Fl} {nm : List UInt8} (hb : ∀ j (hj : j < l.length), Op.bytesLess l[j].n nm = true) : fiF l nm = l.length := by
 unfold fiF
 rw [List.findIdx_eq_length]
 intro x hx
 obtain ⟨j, hj, rfl⟩ := List.getElem_of_mem hx
 simp [hb j hj]
def fiFV (l : List Fl) (nm : List UInt8) : Int := if fiF l nm = l.length then -1 else fiF l nm
set_option maxHeartbeats 1000000 in
theorem indexF_con (l : List Fl) (nm : List UInt8) (hl : l.length <= 1000000) :
 ACon Tryz.prog 49 [.p (.sl 3 (fls l)), .clo 50 [.rp [SB nm] 0]] (.p (I (fiFV l nm))) := by
 refine wBody Tryz.tab Tryz.mixed Tryz.func49 rfl rfl Tryz.ntmps49 (by simp) (by simp) fun Q hr hn => ?_
 repeat' first | (refine hK _ ?_; clear hK) | (refine hK _ _ ?_; clear hK) | (clear hK; refine hK _ ?_; clear hK) | (clear hK; clear hK; refine hK _ ?_; clear hK) | (clear hK; clear hK; clear hK; refine hK _ ?_; clear hK) | (clear hK; clear hK; clear hK; clear hK; refine hK _ ?_; clear hK) | (refine wSeq fun K hK => ?_) | ((first | refine wReg ?_ | refine wDrwQ rfl (by kernel_rfl) ?_ | refine wDrwI ?_ | refine wDrw (by kernel_rfl) ?_); simp only [List.map_cons, List.map_nil, strip]) | ((first | refine wIs fun K hK => ?_ | refine wOs fun K hK => ?_ | refine wQs fun K hK => ?_ | refine CallK_plain ?_ | refine CallQ_plain ?_ | refine CallR_plain ?_ | refine wCond ?_); simp) | (refine wIn ?_; refine And.intro (by kernel_rfl) ?_; try simp only [thenA_n]) | (first | refine wBlock ?_ | refine wScope ?_) | ((first | refine wRet ?_ | refine wExit ?_ | refine wSkip ?_); try simp) | ((first | refine wLabel ?_ | refine wOn ?_ | refine wQn ?_); try simp only [thenA_n])
 refine wLoop (fun N st => ∃ k, k + N = l.length /\ st.s 0 = .p (.sl 3 (fls l)) /\ st.s 1 = .clo 50 [.rp [SB nm] 0] /\ st.s 7 = .p (I l.length) /\ st.s 8 = .p (I k) /\ ∀ j (hj : j < k) (hjl : j < l.length), Op.bytesLess l[j].n nm = true) l.length ⟨0, by simp⟩ fun K N st hL ⟨k, hk, g0, g1, g7, g8, hi⟩ => ?_
 by_cases hlt : k < l.length
 ·have hlt' : (k : Int) < l.length := by omega
  have hw := wrapS k _ hlt (by omega)
  have he := fls_get hlt
  have hx := find1_con l[k] nm
  unfold Fl.cells at hx
  cases o : Op.bytesLess l[k].n nm with
  | false =>
   have hf : fiFV l nm = k := by
    have := fiF_of hlt o fun j hj => hi j hj (by omega)
    unfold fiFV; rw [this, if_neg (by omega)]
   rw [hf] at hr
   rw [o] at hx
   simp only [Bool.not_false] at hx
   repeat' first | (refine hK _ ?_; clear hK) | (refine hK _ _ ?_; clear hK) | (clear hK; refine hK _ ?_; clear hK) | (clear hK; clear hK; refine hK _ ?_; clear hK) | (clear hK; clear hK; clear hK; refine hK _ ?_; clear hK) | (clear hK; clear hK; clear hK; clear hK; refine hK _ ?_; clear hK) | (refine wSeq fun K hK => ?_) | ((first | refine wReg ?_ | refine wDrwQ rfl (by kernel_rfl) ?_ | refine wDrwI ?_ | refine wDrw (by kernel_rfl) ?_); simp only [List.map_cons, List.map_nil, strip]) | ((first | refine wIs fun K hK => ?_ | refine wOs fun K hK => ?_ | refine wQs fun K hK => ?_ | refine CallK_plain ?_ | refine CallQ_plain ?_ | refine CallR_plain ?_ | refine wCond ?_); simp [g0, g1, g7, g8, hlt, hlt', hw, he, Cap.free]) | (refine wIn ?_; refine And.intro (by kernel_rfl) ?_; try simp only [thenA_n]) | (first | refine wBlock ?_ | refine wScope ?_) | ((first | refine wRet ?_ | refine wExit ?_ | refine wSkip ?_); try simp) | ((first | refine wLabel ?_ | refine wOn ?_ | refine wQn ?_); try simp only [thenA_n]) | (refine CallE.pure (hx) rfl ?_) | (refine CallE.lent (hx) rfl ?_) | (refine CallF.pure (hx) rfl ?_) | (refine CallF.lent (hx) rfl ?_) | (refine CallE.own (hx) ?_) | (refine CallH.pure (hx) rfl ?_) | (refine CallH.lent (hx) rfl ?_) | (refine CallH.own (hx) ?_)
   all_goals apply hr
   all_goals simp [Tryz.f49, g0, g1, g7, g8]
  | true =>
   rw [o] at hx
   simp only [Bool.not_true] at hx
   repeat' first | (refine hK _ ?_; clear hK) | (refine hK _ _ ?_; clear hK) | (clear hK; refine hK _ ?_; clear hK) | (clear hK; clear hK; refine hK _ ?_; clear hK) | (clear hK; clear hK; clear hK; refine hK _ ?_; clear hK) | (clear hK; clear hK; clear hK; clear hK; refine hK _ ?_; clear hK) | (refine wSeq fun K hK => ?_) | ((first | refine wReg ?_ | refine wDrwQ rfl (by kernel_rfl) ?_ | refine wDrwI ?_ | refine wDrw (by kernel_rfl) ?_); simp only [List.map_cons, List.map_nil, strip]) | ((first | refine wIs fun K hK => ?_ | refine wOs fun K hK => ?_ | refine wQs fun K hK => ?_ | refine CallK_plain ?_ | refine CallQ_plain ?_ | refine CallR_plain ?_ | refine wCond ?_); simp [g0, g1, g7, g8, hlt, hlt', hw, he, Cap.free]) | (refine wIn ?_; refine And.intro (by kernel_rfl) ?_; try simp only [thenA_n]) | (first | refine wBlock ?_ | refine wScope ?_) | ((first | refine wRet ?_ | refine wExit ?_ | refine wSkip ?_); try simp) | ((first | refine wLabel ?_ | refine wOn ?_ | refine wQn ?_); try simp only [thenA_n]) | (refine CallE.pure (hx) rfl ?_) | (refine CallE.lent (hx) rfl ?_) | (refine CallF.pure (hx) rfl ?_) | (refine CallF.lent (hx) rfl ?_) | (refine CallE.own (hx) ?_) | (refine CallH.pure (hx) rfl ?_) | (refine CallH.lent (hx) rfl ?_) | (refine CallH.own (hx) ?_)
   refine hL _ (N - 1) (by omega) ⟨k + 1, by omega, ?_⟩
   simp [g0, g1, g7, g8, hw]
   intro j hj hjl
   by_cases hjk : j = k
   ·subst hjk; exact o
   ·exact hi j (by omega) hjl
 ·have hlt' : ¬ (k : Int) < l.length := by omega
  have hf : fiFV l nm = -1 := by
   have := fiF_none (l := l) (nm := nm) fun j hj => hi j (by omega) hj
   unfold fiFV; rw [if_pos this]
  rw [hf] at hr
  repeat' first | (refine hK _ ?_; clear hK) | (refine hK _ _ ?_; clear hK) | (clear hK; refine hK _ ?_; clear hK) | (clear hK; clear hK; refine hK _ ?_; clear hK) | (clear hK; clear hK; clear hK; refine hK _ ?_; clear hK) | (clear hK; clear hK; clear hK; clear hK; refine hK _ ?_; clear hK) | (refine wSeq fun K hK => ?_) | ((first | refine wReg ?_ | refine wDrwQ rfl (by kernel_rfl) ?_ | refine wDrwI ?_ | refine wDrw (by kernel_rfl) ?_); simp only [List.map_cons, List.map_nil, strip]) | ((first | refine wIs fun K hK => ?_ | refine wOs fun K hK => ?_ | refine wQs fun K hK => ?_ | refine CallK_plain ?_ | refine CallQ_plain ?_ | refine CallR_plain ?_ | refine wCond ?_); simp [g0, g1, g7, g8, hlt, hlt']) | (refine wIn ?_; refine And.intro (by kernel_rfl) ?_; try simp only [thenA_n]) | (first | refine wBlock ?_ | refine wScope ?_) | ((first | refine wRet ?_ | refine wExit ?_ | refine wSkip ?_); try simp) | ((first | refine wLabel ?_ | refine wOn ?_ | refine wQn ?_); try simp only [thenA_n])
  all_goals apply hr
  all_goals simp [Tryz.f49, g0, g1, g7, g8]
def isF (l : List Fl) (nm : List UInt8) : Bool := match l[fiF l nm]? with
 | some f => f.n == nm
 | none => false
theorem find_con (l : List Fl) (nm : List UInt8) (hl : l.length <= 1000000) : ACon Tryz.prog 31 [.p (.sl 3 (fls l)), .p (SB nm)] (.tup [.p (I (fiF l nm)), .p (B (isF l nm))]) := by
 have c := indexF_con l nm hl
 have hle := fiF_le l nm
 by_cases h : fiF l nm = l.length
 ·have e : isF l nm = false := by unfold isF; rw [List.getElem?_eq_none (by omega)]
  have e2 : fiFV l nm = -1 := by unfold fiFV; rw [if_pos h]
  rw [e2] at c
  rw [e, h]
  refine wBody Tryz.tab Tryz.mixed Tryz.func31 rfl rfl Tryz.ntmps31 (by simp) (by simp) fun Q hr hn => ?_
  repeat' first | (refine wFrzX 3 rfl rfl ?_; simp [frzx, subx, subx0, subxC, subxB]) | (refine hK _ ?_; clear hK) | (refine hK _ _ ?_; clear hK) | (clear hK; refine hK _ ?_; clear hK) | (clear hK; clear hK; refine hK _ ?_; clear hK) | (clear hK; clear hK; clear hK; refine hK _ ?_; clear hK) | (clear hK; clear hK; clear hK; clear hK; refine hK _ ?_; clear hK) | (refine wSeq fun K hK => ?_) | ((first | refine wReg ?_ | refine wDrwQ rfl (by kernel_rfl) ?_ | refine wDrwI ?_ | refine wDrw (by kernel_rfl) ?_); simp only [List.map_cons, List.map_nil, strip]) | ((first | refine wIs fun K hK => ?_ | refine wOs fun K hK => ?_ | refine wQs fun K hK => ?_ | refine CallK_plain ?_ | refine CallQ_plain ?_ | refine CallR_plain ?_ | refine wCond ?_); simp [Cap.free]) | (refine wIn ?_; refine And.intro (by kernel_rfl) ?_; try simp only [thenA_n]) | (first | refine wBlock ?_ | refine wScope ?_) | ((first | refine wRet ?_ | refine wExit ?_ | refine wSkip ?_); try simp) | ((first | refine wLabel ?_ | refine wOn ?_ | refine wQn ?_); try simp only [thenA_n]) | (refine CallE.pure (c) rfl ?_) | (refine CallE.lent (c) rfl ?_) | (refine CallF.pure (c) rfl ?_) | (refine CallF.lent (c) rfl ?_) | (refine CallE.own (c) ?_) | (refine CallH.pure (c) rfl ?_) | (refine CallH.lent (c) rfl ?_) | (refine CallH.own (c) ?_)
  all_goals apply hr
  all_goals simp [Tryz.f31]
 ·have hlt : fiF l nm < l.length := by omega
  have e : isF l nm = (l[fiF l nm].n == nm) := by unfold isF; rw [List.getElem?_eq_getElem hlt]
  have e2 : fiFV l nm = fiF l nm := by unfold fiFV; rw [if_neg h]
  rw [e2] at c
  rw [e]
  generalize fiF l nm = i at *
  have he := fls_get hlt
  have h0n : ((i : Int) < 0) = False := eq_false (by omega)
  refine wBody Tryz.tab Tryz.mixed Tryz.func31 rfl rfl Tryz.ntmps31 (by simp) (by simp) fun Q hr hn => ?_
  repeat' first | (refine wFrzX 3 rfl rfl ?_; simp [frzx, subx, subx0, subxC, subxB]) | (refine hK _ ?_; clear hK) | (refine hK _ _ ?_; clear hK) | (clear hK; refine hK _ ?_; clear hK) | (clear hK; clear hK; refine hK _ ?_; clear hK) | (clear hK; clear hK; clear hK; refine hK _ ?_; clear hK) | (clear hK; clear hK; clear hK; clear hK; refine hK _ ?_; clear hK) | (refine wSeq fun K hK => ?_) | ((first | refine wReg ?_ | refine wDrwQ rfl (by kernel_rfl) ?_ | refine wDrwI ?_ | refine wDrw (by kernel_rfl) ?_); simp only [List.map_cons, List.map_nil, strip]) | ((first | refine wIs fun K hK => ?_ | refine wOs fun K hK => ?_ | refine wQs fun K hK => ?_ | refine CallK_plain ?_ | refine CallQ_plain ?_ | refine CallR_plain ?_ | refine wCond ?_); simp [Cap.free, he, hlt, h0n]) | (refine wIn ?_; refine And.intro (by kernel_rfl) ?_; try simp only [thenA_n]) | (first | refine wBlock ?_ | refine wScope ?_) | ((first | refine wRet ?_ | refine wExit ?_ | refine wSkip ?_); try simp) | ((first | refine wLabel ?_ | refine wOn ?_ | refine wQn ?_); try simp only [thenA_n]) | (refine CallE.pure (c) rfl ?_) | (refine CallE.lent (c) rfl ?_) | (refine CallF.pure (c) rfl ?_) | (refine CallF.lent (c) rfl ?_) | (refine CallE.own (c) ?_) | (refine CallH.pure (c) rfl ?_) | (refine CallH.lent (c) rfl ?_) | (refine CallH.own (c) ?_)
  all_goals apply hr
  all_goals simp [Tryz.f31]
def okB (b : UInt8) : Bool := decide (¬ ((((b.toNat : Int) < 97 \/ 122 < (b.toNat : Int)) /\ ((b.toNat : Int) < 48 \/ 57 < (b.toNat : Int))) /\ ¬ (b.toNat : Int) = 46))
def isN (l : List UInt8) : Bool := l.all okB && decide (0 < l.length /\ l.length <= 24)
theorem isN_drop {l : List UInt8} {k : Nat} (h : k < l.length) : (l.drop k).all okB = (okB l[k] && (l.drop (k + 1)).all okB) := by rw [List.drop_eq_getElem_cons h, List.all_cons]
set_option maxHeartbeats 8000000 in
theorem isName_con (l : List UInt8) (hl : l.length <= 1000000000) : ACon Tryz.prog 29 [.p (SB l)] (.p (B (isN l))) := by
 have h63 : l.length <= 9223372036854775807 := by omega
 refine wBody Tryz.tab Tryz.mixed Tryz.func29 rfl rfl Tryz.ntmps29 (by simp) (by simp) fun Q hr hn => ?_
 repeat' first | (refine hK _ ?_; clear hK) | (refine hK _ _ ?_; clear hK) | (clear hK; refine hK _ ?_; clear hK) | (clear hK; clear hK; refine hK _ ?_; clear hK) | (clear hK; clear hK; clear hK; refine hK _ ?_; clear hK) | (clear hK; clear hK; clear hK; clear hK; refine hK _ ?_; clear hK) | (refine wSeq fun K hK => ?_) | ((first | refine wReg ?_ | refine wDrwQ rfl (by kernel_rfl) ?_ | refine wDrwI ?_ | refine wDrw (by kernel_rfl) ?_); simp only [List.map_cons, List.map_nil, strip]) | ((first | refine wIs fun K hK => ?_ | refine wOs fun K hK => ?_ | refine wQs fun K hK => ?_ | refine CallK_plain ?_ | refine CallQ_plain ?_ | refine CallR_plain ?_ | refine wCond ?_); simp [h63]) | (refine wIn ?_; refine And.intro (by kernel_rfl) ?_; try simp only [thenA_n]) | (first | refine wBlock ?_ | refine wScope ?_) | ((first | refine wRet ?_ | refine wExit ?_ | refine wSkip ?_); try simp) | ((first | refine wLabel ?_ | refine wOn ?_ | refine wQn ?_); try simp only [thenA_n])
 refine wLoop (fun N st => ∃ (k : Nat), k + N = l.length /\ (l.drop k).all okB = l.all okB /\ st.s 0 = .p (SB l) /\ st.s 6 = .p (.sl 1 (by8 l)) /\ st.s 7 = .p (I l.length) /\ st.s 8 = .p (I k)) l.length ⟨0, by simp [by8, dcell]⟩ fun K N st hL ⟨k, hk, hi, g0, g6, g7, g8⟩ => ?_
 by_cases hlt : k < l.length
 ·have hlt' : (k : Int) < l.length := by omega
  have hw := wrapS k _ hlt (by omega)
  have he := by8_get hlt
  rw [isN_drop hlt] at hi
  have bad : ((((l[k].toNat : Int) < 97 \/ 122 < (l[k].toNat : Int)) /\ ((l[k].toNat : Int) < 48 \/ 57 < (l[k].toNat : Int))) /\ ¬ (l[k].toNat : Int) = 46) -> isN l = false := fun h => by
   have e : okB l[k] = false := by unfold okB; exact decide_eq_false fun h2 => h2 h
   rw [e, Bool.false_and] at hi
   unfold isN; rw [<- hi, Bool.false_and]
  have good : ¬ ((((l[k].toNat : Int) < 97 \/ 122 < (l[k].toNat : Int)) /\ ((l[k].toNat : Int) < 48 \/ 57 < (l[k].toNat : Int))) /\ ¬ (l[k].toNat : Int) = 46) -> (l.drop (k + 1)).all okB = l.all okB := fun h => by
   have e : okB l[k] = true := by unfold okB; exact decide_eq_true h
   rw [e, Bool.true_and] at hi
   exact hi
  clear hi
  by_cases q1 : (l[k].toNat : Int) < 97
  ·have q1' : ((l[k].toNat : Int) < 97) = True := eq_true q1
   by_cases q3 : (l[k].toNat : Int) < 48
   ·have q3' : ((l[k].toNat : Int) < 48) = True := eq_true q3
    by_cases q5 : (l[k].toNat : Int) = 46
    ·have q5' : ((l[k].toNat : Int) = 46) = True := eq_true q5
     repeat' first | (refine hK _ ?_; clear hK) | (refine hK _ _ ?_; clear hK) | (clear hK; refine hK _ ?_; clear hK) | (clear hK; clear hK; refine hK _ ?_; clear hK) | (clear hK; clear hK; clear hK; refine hK _ ?_; clear hK) | (clear hK; clear hK; clear hK; clear hK; refine hK _ ?_; clear hK) | (refine wSeq fun K hK => ?_) | ((first | refine wReg ?_ | refine wDrwQ rfl (by kernel_rfl) ?_ | refine wDrwI ?_ | refine wDrw (by kernel_rfl) ?_); simp only [List.map_cons, List.map_nil, strip]) | ((first | refine wIs fun K hK => ?_ | refine wOs fun K hK => ?_ | refine wQs fun K hK => ?_ | refine CallK_plain ?_ | refine CallQ_plain ?_ | refine CallR_plain ?_ | refine wCond ?_); simp [g0, g6, g7, g8, hlt, hlt', hw, he, q1', q3', q5']) | (refine wIn ?_; refine And.intro (by kernel_rfl) ?_; try simp only [thenA_n]) | (first | refine wBlock ?_ | refine wScope ?_) | ((first | refine wRet ?_ | refine wExit ?_ | refine wSkip ?_); try simp) | ((first | refine wLabel ?_ | refine wOn ?_ | refine wQn ?_); try simp only [thenA_n])
     refine hL _ (N - 1) (by omega) ⟨k + 1, by omega, good (by omega), ?_⟩
     simp [g0, g6, g7, g8, hw]
    ·have q5' : ((l[k].toNat : Int) = 46) = False := eq_false q5
     rw [bad (by omega)] at hr
     repeat' first | (refine hK _ ?_; clear hK) | (refine hK _ _ ?_; clear hK) | (clear hK; refine hK _ ?_; clear hK) | (clear hK; clear hK; refine hK _ ?_; clear hK) | (clear hK; clear hK; clear hK; refine hK _ ?_; clear hK) | (clear hK; clear hK; clear hK; clear hK; refine hK _ ?_; clear hK) | (refine wSeq fun K hK => ?_) | ((first | refine wReg ?_ | refine wDrwQ rfl (by kernel_rfl) ?_ | refine wDrwI ?_ | refine wDrw (by kernel_rfl) ?_); simp only [List.map_cons, List.map_nil, strip]) | ((first | refine wIs fun K hK => ?_ | refine wOs fun K hK => ?_ | refine wQs fun K hK => ?_ | refine CallK_plain ?_ | refine CallQ_plain ?_ | refine CallR_plain ?_ | refine wCond ?_); simp [g0, g6, g7, g8, hlt, hlt', hw, he, q1', q3', q5']) | (refine wIn ?_; refine And.intro (by kernel_rfl) ?_; try simp only [thenA_n]) | (first | refine wBlock ?_ | refine wScope ?_) | ((first | refine wRet ?_ | refine wExit ?_ | refine wSkip ?_); try simp) | ((first | refine wLabel ?_ | refine wOn ?_ | refine wQn ?_); try simp only [thenA_n])
     all_goals apply hr
     all_goals simp [Tryz.f29]
   ·have q3' : ((l[k].toNat : Int) < 48) = False := eq_false q3
    by_cases q4 : 57 < (l[k].toNat : Int)
    ·have q4' : (57 < (l[k].toNat : Int)) = True := eq_true q4
     by_cases q5 : (l[k].toNat : Int) = 46
     ·have q5' : ((l[k].toNat : Int) = 46) = True := eq_true q5
      repeat' first | (refine hK _ ?_; clear hK) | (refine hK _ _ ?_; clear hK) | (clear hK; refine hK _ ?_; clear hK) | (clear hK; clear hK; refine hK _ ?_; clear hK) | (clear hK; clear hK; clear hK; refine hK _ ?_; clear hK) | (clear hK; clear hK; clear hK; clear hK; refine hK _ ?_; clear hK) | (refine wSeq fun K hK => ?_) | ((first | refine wReg ?_ | refine wDrwQ rfl (by kernel_rfl) ?_ | refine wDrwI ?_ | refine wDrw (by kernel_rfl) ?_); simp only [List.map_cons, List.map_nil, strip]) | ((first | refine wIs fun K hK => ?_ | refine wOs fun K hK => ?_ | refine wQs fun K hK => ?_ | refine CallK_plain ?_ | refine CallQ_plain ?_ | refine CallR_plain ?_ | refine wCond ?_); simp [g0, g6, g7, g8, hlt, hlt', hw, he, q1', q3', q4', q5']) | (refine wIn ?_; refine And.intro (by kernel_rfl) ?_; try simp only [thenA_n]) | (first | refine wBlock ?_ | refine wScope ?_) | ((first | refine wRet ?_ | refine wExit ?_ | refine wSkip ?_); try simp) | ((first | refine wLabel ?_ | refine wOn ?_ | refine wQn ?_); try simp only [thenA_n])
      refine hL _ (N - 1) (by omega) ⟨k + 1, by omega, good (by omega), ?_⟩
      simp [g0, g6, g7, g8, hw]
     ·have q5' : ((l[k].toNat : Int) = 46) = False := eq_false q5
      rw [bad (by omega)] at hr
      repeat' first | (refine hK _ ?_; clear hK) | (refine hK _ _ ?_; clear hK) | (clear hK; refine hK _ ?_; clear hK) | (clear hK; clear hK; refine hK _ ?_; clear hK) | (clear hK; clear hK; clear hK; refine hK _ ?_; clear hK) | (clear hK; clear hK; clear hK; clear hK; refine hK _ ?_; clear hK) | (refine wSeq fun K hK => ?_) | ((first | refine wReg ?_ | refine wDrwQ rfl (by kernel_rfl) ?_ | refine wDrwI ?_ | refine wDrw (by kernel_rfl) ?_); simp only [List.map_cons, List.map_nil, strip]) | ((first | refine wIs fun K hK => ?_ | refine wOs fun K hK => ?_ | refine wQs fun K hK => ?_ | refine CallK_plain ?_ | refine CallQ_plain ?_ | refine CallR_plain ?_ | refine wCond ?_); simp [g0, g6, g7, g8, hlt, hlt', hw, he, q1', q3', q4', q5']) | (refine wIn ?_; refine And.intro (by kernel_rfl) ?_; try simp only [thenA_n]) | (first | refine wBlock ?_ | refine wScope ?_) | ((first | refine wRet ?_ | refine wExit ?_ | refine wSkip ?_); try simp) | ((first | refine wLabel ?_ | refine wOn ?_ | refine wQn ?_); try simp only [thenA_n])
      all_goals apply hr
      all_goals simp [Tryz.f29]
    ·have q4' : (57 < (l[k].toNat : Int)) = False := eq_false q4
     repeat' first | (refine hK _ ?_; clear hK) | (refine hK _ _ ?_; clear hK) | (clear hK; refine hK _ ?_; clear hK) | (clear hK; clear hK; refine hK _ ?_; clear hK) | (clear hK; clear hK; clear hK; refine hK _ ?_; clear hK) | (clear hK; clear hK; clear hK; clear hK; refine hK _ ?_; clear hK) | (refine wSeq fun K hK => ?_) | ((first | refine wReg ?_ | refine wDrwQ rfl (by kernel_rfl) ?_ | refine wDrwI ?_ | refine wDrw (by kernel_rfl) ?_); simp only [List.map_cons, List.map_nil, strip]) | ((first | refine wIs fun K hK => ?_ | refine wOs fun K hK => ?_ | refine wQs fun K hK => ?_ | refine CallK_plain ?_ | refine CallQ_plain ?_ | refine CallR_plain ?_ | refine wCond ?_); simp [g0, g6, g7, g8, hlt, hlt', hw, he, q1', q3', q4']) | (refine wIn ?_; refine And.intro (by kernel_rfl) ?_; try simp only [thenA_n]) | (first | refine wBlock ?_ | refine wScope ?_) | ((first | refine wRet ?_ | refine wExit ?_ | refine wSkip ?_); try simp) | ((first | refine wLabel ?_ | refine wOn ?_ | refine wQn ?_); try simp only [thenA_n])
     refine hL _ (N - 1) (by omega) ⟨k + 1, by omega, good (by omega), ?_⟩
     simp [g0, g6, g7, g8, hw]
  ·have q1' : ((l[k].toNat : Int) < 97) = False := eq_false q1
   by_cases q2 : 122 < (l[k].toNat : Int)
   ·have q2' : (122 < (l[k].toNat : Int)) = True := eq_true q2
    by_cases q3 : (l[k].toNat : Int) < 48
    ·have q3' : ((l[k].toNat : Int) < 48) = True := eq_true q3
     by_cases q5 : (l[k].toNat : Int) = 46
     ·have q5' : ((l[k].toNat : Int) = 46) = True := eq_true q5
      repeat' first | (refine hK _ ?_; clear hK) | (refine hK _ _ ?_; clear hK) | (clear hK; refine hK _ ?_; clear hK) | (clear hK; clear hK; refine hK _ ?_; clear hK) | (clear hK; clear hK; clear hK; refine hK _ ?_; clear hK) | (clear hK; clear hK; clear hK; clear hK; refine hK _ ?_; clear hK) | (refine wSeq fun K hK => ?_) | ((first | refine wReg ?_ | refine wDrwQ rfl (by kernel_rfl) ?_ | refine wDrwI ?_ | refine wDrw (by kernel_rfl) ?_); simp only [List.map_cons, List.map_nil, strip]) | ((first | refine wIs fun K hK => ?_ | refine wOs fun K hK => ?_ | refine wQs fun K hK => ?_ | refine CallK_plain ?_ | refine CallQ_plain ?_ | refine CallR_plain ?_ | refine wCond ?_); simp [g0, g6, g7, g8, hlt, hlt', hw, he, q1', q2', q3', q5']) | (refine wIn ?_; refine And.intro (by kernel_rfl) ?_; try simp only [thenA_n]) | (first | refine wBlock ?_ | refine wScope ?_) | ((first | refine wRet ?_ | refine wExit ?_ | refine wSkip ?_); try simp) | ((first | refine wLabel ?_ | refine wOn ?_ | refine wQn ?_); try simp only [thenA_n])
      refine hL _ (N - 1) (by omega) ⟨k + 1, by omega, good (by omega), ?_⟩
      simp [g0, g6, g7, g8, hw]
     ·have q5' : ((l[k].toNat : Int) = 46) = False := eq_false q5
      rw [bad (by omega)] at hr
      repeat' first | (refine hK _ ?_; clear hK) | (refine hK _ _ ?_; clear hK) | (clear hK; refine hK _ ?_; clear hK) | (clear hK; clear hK; refine hK _ ?_; clear hK) | (clear hK; clear hK; clear hK; refine hK _ ?_; clear hK) | (clear hK; clear hK; clear hK; clear hK; refine hK _ ?_; clear hK) | (refine wSeq fun K hK => ?_) | ((first | refine wReg ?_ | refine wDrwQ rfl (by kernel_rfl) ?_ | refine wDrwI ?_ | refine wDrw (by kernel_rfl) ?_); simp only [List.map_cons, List.map_nil, strip]) | ((first | refine wIs fun K hK => ?_ | refine wOs fun K hK => ?_ | refine wQs fun K hK => ?_ | refine CallK_plain ?_ | refine CallQ_plain ?_ | refine CallR_plain ?_ | refine wCond ?_); simp [g0, g6, g7, g8, hlt, hlt', hw, he, q1', q2', q3', q5']) | (refine wIn ?_; refine And.intro (by kernel_rfl) ?_; try simp only [thenA_n]) | (first | refine wBlock ?_ | refine wScope ?_) | ((first | refine wRet ?_ | refine wExit ?_ | refine wSkip ?_); try simp) | ((first | refine wLabel ?_ | refine wOn ?_ | refine wQn ?_); try simp only [thenA_n])
      all_goals apply hr
      all_goals simp [Tryz.f29]
    ·have q3' : ((l[k].toNat : Int) < 48) = False := eq_false q3
     by_cases q4 : 57 < (l[k].toNat : Int)
     ·have q4' : (57 < (l[k].toNat : Int)) = True := eq_true q4
      by_cases q5 : (l[k].toNat : Int) = 46
      ·have q5' : ((l[k].toNat : Int) = 46) = True := eq_true q5
       repeat' first | (refine hK _ ?_; clear hK) | (refine hK _ _ ?_; clear hK) | (clear hK; refine hK _ ?_; clear hK) | (clear hK; clear hK; refine hK _ ?_; clear hK) | (clear hK; clear hK; clear hK; refine hK _ ?_; clear hK) | (clear hK; clear hK; clear hK; clear hK; refine hK _ ?_; clear hK) | (refine wSeq fun K hK => ?_) | ((first | refine wReg ?_ | refine wDrwQ rfl (by kernel_rfl) ?_ | refine wDrwI ?_ | refine wDrw (by kernel_rfl) ?_); simp only [List.map_cons, List.map_nil, strip]) | ((first | refine wIs fun K hK => ?_ | refine wOs fun K hK => ?_ | refine wQs fun K hK => ?_ | refine CallK_plain ?_ | refine CallQ_plain ?_ | refine CallR_plain ?_ | refine wCond ?_); simp [g0, g6, g7, g8, hlt, hlt', hw, he, q1', q2', q3', q4', q5']) | (refine wIn ?_; refine And.intro (by kernel_rfl) ?_; try simp only [thenA_n]) | (first | refine wBlock ?_ | refine wScope ?_) | ((first | refine wRet ?_ | refine wExit ?_ | refine wSkip ?_); try simp) | ((first | refine wLabel ?_ | refine wOn ?_ | refine wQn ?_); try simp only [thenA_n])
       refine hL _ (N - 1) (by omega) ⟨k + 1, by omega, good (by omega), ?_⟩
       simp [g0, g6, g7, g8, hw]
      ·have q5' : ((l[k].toNat : Int) = 46) = False := eq_false q5
       rw [bad (by omega)] at hr
       repeat' first | (refine hK _ ?_; clear hK) | (refine hK _ _ ?_; clear hK) | (clear hK; refine hK _ ?_; clear hK) | (clear hK; clear hK; refine hK _ ?_; clear hK) | (clear hK; clear hK; clear hK; refine hK _ ?_; clear hK) | (clear hK; clear hK; clear hK; clear hK; refine hK _ ?_; clear hK) | (refine wSeq fun K hK => ?_) | ((first | refine wReg ?_ | refine wDrwQ rfl (by kernel_rfl) ?_ | refine wDrwI ?_ | refine wDrw (by kernel_rfl) ?_); simp only [List.map_cons, List.map_nil, strip]) | ((first | refine wIs fun K hK => ?_ | refine wOs fun K hK => ?_ | refine wQs fun K hK => ?_ | refine CallK_plain ?_ | refine CallQ_plain ?_ | refine CallR_plain ?_ | refine wCond ?_); simp [g0, g6, g7, g8, hlt, hlt', hw, he, q1', q2', q3', q4', q5']) | (refine wIn ?_; refine And.intro (by kernel_rfl) ?_; try simp only [thenA_n]) | (first | refine wBlock ?_ | refine wScope ?_) | ((first | refine wRet ?_ | refine wExit ?_ | refine wSkip ?_); try simp) | ((first | refine wLabel ?_ | refine wOn ?_ | refine wQn ?_); try simp only [thenA_n])
       all_goals apply hr
       all_goals simp [Tryz.f29]
     ·have q4' : (57 < (l[k].toNat : Int)) = False := eq_false q4
      repeat' first | (refine hK _ ?_; clear hK) | (refine hK _ _ ?_; clear hK) | (clear hK; refine hK _ ?_; clear hK) | (clear hK; clear hK; refine hK _ ?_; clear hK) | (clear hK; clear hK; clear hK; refine hK _ ?_; clear hK) | (clear hK; clear hK; clear hK; clear hK; refine hK _ ?_; clear hK) | (refine wSeq fun K hK => ?_) | ((first | refine wReg ?_ | refine wDrwQ rfl (by kernel_rfl) ?_ | refine wDrwI ?_ | refine wDrw (by kernel_rfl) ?_); simp only [List.map_cons, List.map_nil, strip]) | ((first | refine wIs fun K hK => ?_ | refine wOs fun K hK => ?_ | refine wQs fun K hK => ?_ | refine CallK_plain ?_ | refine CallQ_plain ?_ | refine CallR_plain ?_ | refine wCond ?_); simp [g0, g6, g7, g8, hlt, hlt', hw, he, q1', q2', q3', q4']) | (refine wIn ?_; refine And.intro (by kernel_rfl) ?_; try simp only [thenA_n]) | (first | refine wBlock ?_ | refine wScope ?_) | ((first | refine wRet ?_ | refine wExit ?_ | refine wSkip ?_); try simp) | ((first | refine wLabel ?_ | refine wOn ?_ | refine wQn ?_); try simp only [thenA_n])
      refine hL _ (N - 1) (by omega) ⟨k + 1, by omega, good (by omega), ?_⟩
      simp [g0, g6, g7, g8, hw]
   ·have q2' : (122 < (l[k].toNat : Int)) = False := eq_false q2
    repeat' first | (refine hK _ ?_; clear hK) | (refine hK _ _ ?_; clear hK) | (clear hK; refine hK _ ?_; clear hK) | (clear hK; clear hK; refine hK _ ?_; clear hK) | (clear hK; clear hK; clear hK; refine hK _ ?_; clear hK) | (clear hK; clear hK; clear hK; clear hK; refine hK _ ?_; clear hK) | (refine wSeq fun K hK => ?_) | ((first | refine wReg ?_ | refine wDrwQ rfl (by kernel_rfl) ?_ | refine wDrwI ?_ | refine wDrw (by kernel_rfl) ?_); simp only [List.map_cons, List.map_nil, strip]) | ((first | refine wIs fun K hK => ?_ | refine wOs fun K hK => ?_ | refine wQs fun K hK => ?_ | refine CallK_plain ?_ | refine CallQ_plain ?_ | refine CallR_plain ?_ | refine wCond ?_); simp [g0, g6, g7, g8, hlt, hlt', hw, he, q1', q2']) | (refine wIn ?_; refine And.intro (by kernel_rfl) ?_; try simp only [thenA_n]) | (first | refine wBlock ?_ | refine wScope ?_) | ((first | refine wRet ?_ | refine wExit ?_ | refine wSkip ?_); try simp) | ((first | refine wLabel ?_ | refine wOn ?_ | refine wQn ?_); try simp only [thenA_n])
    refine hL _ (N - 1) (by omega) ⟨k + 1, by omega, good (by omega), ?_⟩
    simp [g0, g6, g7, g8, hw]
 ·have hlt' : ¬ (k : Int) < l.length := by omega
  rw [List.drop_of_length_le (by omega)] at hi
  have hi' : isN l = decide (0 < l.length /\ l.length <= 24) := by unfold isN; rw [<- hi]; rfl
  rw [hi'] at hr
  by_cases p1 : l = []
  ·subst p1
   have hk0 : ((k : Int) < 0) = False := eq_false (by omega)
   repeat' first | (refine hK _ ?_; clear hK) | (refine hK _ _ ?_; clear hK) | (clear hK; refine hK _ ?_; clear hK) | (clear hK; clear hK; refine hK _ ?_; clear hK) | (clear hK; clear hK; clear hK; refine hK _ ?_; clear hK) | (clear hK; clear hK; clear hK; clear hK; refine hK _ ?_; clear hK) | (refine wSeq fun K hK => ?_) | ((first | refine wReg ?_ | refine wDrwQ rfl (by kernel_rfl) ?_ | refine wDrwI ?_ | refine wDrw (by kernel_rfl) ?_); simp only [List.map_cons, List.map_nil, strip]) | ((first | refine wIs fun K hK => ?_ | refine wOs fun K hK => ?_ | refine wQs fun K hK => ?_ | refine CallK_plain ?_ | refine CallQ_plain ?_ | refine CallR_plain ?_ | refine wCond ?_); simp [g0, g6, g7, g8, hk0]) | (refine wIn ?_; refine And.intro (by kernel_rfl) ?_; try simp only [thenA_n]) | (first | refine wBlock ?_ | refine wScope ?_) | ((first | refine wRet ?_ | refine wExit ?_ | refine wSkip ?_); try simp) | ((first | refine wLabel ?_ | refine wOn ?_ | refine wQn ?_); try simp only [thenA_n])
   all_goals apply hr
   all_goals simp [Tryz.f29]
  ·have p1l : 0 < l.length := List.length_pos_iff.2 p1
   by_cases p2 : l.length <= 24
   ·have p2' : (l.length : Int) <= 24 := by omega
    repeat' first | (refine hK _ ?_; clear hK) | (refine hK _ _ ?_; clear hK) | (clear hK; refine hK _ ?_; clear hK) | (clear hK; clear hK; refine hK _ ?_; clear hK) | (clear hK; clear hK; clear hK; refine hK _ ?_; clear hK) | (clear hK; clear hK; clear hK; clear hK; refine hK _ ?_; clear hK) | (refine wSeq fun K hK => ?_) | ((first | refine wReg ?_ | refine wDrwQ rfl (by kernel_rfl) ?_ | refine wDrwI ?_ | refine wDrw (by kernel_rfl) ?_); simp only [List.map_cons, List.map_nil, strip]) | ((first | refine wIs fun K hK => ?_ | refine wOs fun K hK => ?_ | refine wQs fun K hK => ?_ | refine CallK_plain ?_ | refine CallQ_plain ?_ | refine CallR_plain ?_ | refine wCond ?_); simp [g0, g6, g7, g8, hlt, hlt', p1, p2, p2']) | (refine wIn ?_; refine And.intro (by kernel_rfl) ?_; try simp only [thenA_n]) | (first | refine wBlock ?_ | refine wScope ?_) | ((first | refine wRet ?_ | refine wExit ?_ | refine wSkip ?_); try simp) | ((first | refine wLabel ?_ | refine wOn ?_ | refine wQn ?_); try simp only [thenA_n])
    all_goals apply hr
    all_goals simp [Tryz.f29, p2, p1l, p1]
   ·have p2' : ¬ (l.length : Int) <= 24 := by omega
    repeat' first | (refine hK _ ?_; clear hK) | (refine hK _ _ ?_; clear hK) | (clear hK; refine hK _ ?_; clear hK) | (clear hK; clear hK; refine hK _ ?_; clear hK) | (clear hK; clear hK; clear hK; refine hK _ ?_; clear hK) | (clear hK; clear hK; clear hK; clear hK; refine hK _ ?_; clear hK) | (refine wSeq fun K hK => ?_) | ((first | refine wReg ?_ | refine wDrwQ rfl (by kernel_rfl) ?_ | refine wDrwI ?_ | refine wDrw (by kernel_rfl) ?_); simp only [List.map_cons, List.map_nil, strip]) | ((first | refine wIs fun K hK => ?_ | refine wOs fun K hK => ?_ | refine wQs fun K hK => ?_ | refine CallK_plain ?_ | refine CallQ_plain ?_ | refine CallR_plain ?_ | refine wCond ?_); simp [g0, g6, g7, g8, hlt, hlt', p1, p2, p2']) | (refine wIn ?_; refine And.intro (by kernel_rfl) ?_; try simp only [thenA_n]) | (first | refine wBlock ?_ | refine wScope ?_) | ((first | refine wRet ?_ | refine wExit ?_ | refine wSkip ?_); try simp) | ((first | refine wLabel ?_ | refine wOn ?_ | refine wQn ?_); try simp only [thenA_n])
    all_goals apply hr
    all_goals simp [Tryz.f29, p2, p1l, p1]
def usedL (l : List Fl) : Nat := (l.map fun f => f.d.length).sum
theorem usedL_app (l m : List Fl) : usedL (l ++ m) = usedL l + usedL m := by simp [usedL]
theorem usedL_take {l : List Fl} {k : Nat} (h : k < l.length) : usedL (l.take (k + 1)) = usedL (l.take k) + l[k].d.length := by
 rw [List.take_succ_eq_append_getElem h, usedL_app]; simp [usedL]
theorem usedL_takeLe (l : List Fl) (k : Nat) : usedL (l.take k) <= usedL l := by
 have := usedL_app (l.take k) (l.drop k)
 rw [List.take_append_drop] at this; omega
set_option maxHeartbeats 1000000 in
theorem used_con (d : Dk) (hn : d.fs.length <= 1000000) (hu : usedL d.fs <= 1000000000) : ACon Tryz.prog 30 [.p (.agg d.cells)] (.p (I (usedL d.fs))) := by
 obtain ⟨fs, cap, fuse, dn⟩ := d
 simp only at hn hu
 unfold Dk.cells
 dsimp only
 refine wBody Tryz.tab Tryz.mixed Tryz.func30 rfl rfl Tryz.ntmps30 (by simp) (by simp) fun Q hr hn => ?_
 repeat' first | (refine hK _ ?_; clear hK) | (refine hK _ _ ?_; clear hK) | (clear hK; refine hK _ ?_; clear hK) | (clear hK; clear hK; refine hK _ ?_; clear hK) | (clear hK; clear hK; clear hK; refine hK _ ?_; clear hK) | (clear hK; clear hK; clear hK; clear hK; refine hK _ ?_; clear hK) | (refine wSeq fun K hK => ?_) | ((first | refine wReg ?_ | refine wDrwQ rfl (by kernel_rfl) ?_ | refine wDrwI ?_ | refine wDrw (by kernel_rfl) ?_); simp only [List.map_cons, List.map_nil, strip]) | ((first | refine wIs fun K hK => ?_ | refine wOs fun K hK => ?_ | refine wQs fun K hK => ?_ | refine CallK_plain ?_ | refine CallQ_plain ?_ | refine CallR_plain ?_ | refine wCond ?_); simp) | (refine wIn ?_; refine And.intro (by kernel_rfl) ?_; try simp only [thenA_n]) | (first | refine wBlock ?_ | refine wScope ?_) | ((first | refine wRet ?_ | refine wExit ?_ | refine wSkip ?_); try simp) | ((first | refine wLabel ?_ | refine wOn ?_ | refine wQn ?_); try simp only [thenA_n])
 refine wLoop (fun N st => ∃ (k m : Nat), k + N = fs.length /\ m = usedL (fs.take k) /\ st.s 7 = .p (.sl 3 (fls fs)) /\ st.s 8 = .p (I fs.length) /\ st.s 9 = .p (I k) /\ st.s 3 = .p (I m)) fs.length ⟨0, 0, by simp [usedL]⟩ fun K N st hL ⟨k, m, hk, hm, g7, g8, g9, g3⟩ => ?_
 by_cases hlt : k < fs.length
 ·have hlt' : (k : Int) < fs.length := by omega
  have hw := wrapS k _ hlt (by omega)
  have he := fls_get hlt
  have h1 := usedL_take hlt
  have h2 := usedL_takeLe fs (k + 1)
  have hw2 : IntKind.i64.wrap ((m : Int) + (fs[k].d.length : Int)) = ((m + fs[k].d.length : Nat) : Int) := by rw [wrap_id] <;> omega
  have hl : fs[k].d.length < 9223372036854775808 := by omega
  repeat' first | (refine hK _ ?_; clear hK) | (refine hK _ _ ?_; clear hK) | (clear hK; refine hK _ ?_; clear hK) | (clear hK; clear hK; refine hK _ ?_; clear hK) | (clear hK; clear hK; clear hK; refine hK _ ?_; clear hK) | (clear hK; clear hK; clear hK; clear hK; refine hK _ ?_; clear hK) | (refine wSeq fun K hK => ?_) | ((first | refine wReg ?_ | refine wDrwQ rfl (by kernel_rfl) ?_ | refine wDrwI ?_ | refine wDrw (by kernel_rfl) ?_); simp only [List.map_cons, List.map_nil, strip]) | ((first | refine wIs fun K hK => ?_ | refine wOs fun K hK => ?_ | refine wQs fun K hK => ?_ | refine CallK_plain ?_ | refine CallQ_plain ?_ | refine CallR_plain ?_ | refine wCond ?_); simp [g7, g8, g9, g3, hlt, hlt', hw, he, hw2]) | (refine wIn ?_; refine And.intro (by kernel_rfl) ?_; try simp only [thenA_n]) | (first | refine wBlock ?_ | refine wScope ?_) | ((first | refine wRet ?_ | refine wExit ?_ | refine wSkip ?_); try simp) | ((first | refine wLabel ?_ | refine wOn ?_ | refine wQn ?_); try simp only [thenA_n])
  refine hL _ (N - 1) (by omega) ⟨k + 1, m + fs[k].d.length, by omega, by omega, ?_⟩
  simp [g7, g8, g9, g3, hw, hw2]
 ·have hlt' : ¬ (k : Int) < fs.length := by omega
  rw [List.take_of_length_le (by omega)] at hm
  rw [<- hm] at hr
  repeat' first | (refine hK _ ?_; clear hK) | (refine hK _ _ ?_; clear hK) | (clear hK; refine hK _ ?_; clear hK) | (clear hK; clear hK; refine hK _ ?_; clear hK) | (clear hK; clear hK; clear hK; refine hK _ ?_; clear hK) | (clear hK; clear hK; clear hK; clear hK; refine hK _ ?_; clear hK) | (refine wSeq fun K hK => ?_) | ((first | refine wReg ?_ | refine wDrwQ rfl (by kernel_rfl) ?_ | refine wDrwI ?_ | refine wDrw (by kernel_rfl) ?_); simp only [List.map_cons, List.map_nil, strip]) | ((first | refine wIs fun K hK => ?_ | refine wOs fun K hK => ?_ | refine wQs fun K hK => ?_ | refine CallK_plain ?_ | refine CallQ_plain ?_ | refine CallR_plain ?_ | refine wCond ?_); simp [g7, g8, g9, g3, hlt, hlt']) | (refine wIn ?_; refine And.intro (by kernel_rfl) ?_; try simp only [thenA_n]) | (first | refine wBlock ?_ | refine wScope ?_) | ((first | refine wRet ?_ | refine wExit ?_ | refine wSkip ?_); try simp) | ((first | refine wLabel ?_ | refine wOn ?_ | refine wQn ?_); try simp only [thenA_n])
  all_goals apply hr
  all_goals simp [Tryz.f30]
def burnF (f : Int) : Int := if f <= 0 then f else f - 1
def burnN (f : Int) (dn : Bool) : Bool := if f = 1 then true else dn
def burnE (f : Int) : Int := if f = 1 then 9 else 0
set_option maxHeartbeats 1000000 in
theorem burn_con (X : List (List PV)) (cap fuse : Int) (dn : Bool) (hf : fuse <= 9223372036854775807) :
 Con Tryz.prog 33 [.ptr 1024 0] [.box 28 [.row 1025, .p (I cap), .p (I fuse), .p (B dn)], .row 62 3 X]
  (.ret (.p (I (burnE fuse))) [] [.box 28 [.row 1025, .p (I cap), .p (I (burnF fuse)), .p (B (burnN fuse dn))], .row 62 3 X]) := by
 unfold burnF burnN burnE
 by_cases h1 : fuse <= 0
 ·rw [if_pos h1, if_neg (by omega), if_neg (by omega)]
  refine wBodyG Tryz.tab Tryz.mixed Tryz.func33 rfl rfl Tryz.ntmps33 (by simp) (by simp) fun Q hr hn hp => ?_
  repeat' first | (refine hK _ ?_; clear hK) | (refine hK _ _ ?_; clear hK) | (clear hK; refine hK _ ?_; clear hK) | (clear hK; clear hK; refine hK _ ?_; clear hK) | (clear hK; clear hK; clear hK; refine hK _ ?_; clear hK) | (clear hK; clear hK; clear hK; clear hK; refine hK _ ?_; clear hK) | (refine wSeq fun K hK => ?_) | ((first | refine wReg ?_ | refine wDrwQ rfl (by kernel_rfl) ?_ | refine wDrwI ?_ | refine wDrw (by kernel_rfl) ?_); simp only [List.map_cons, List.map_nil, strip]) | ((first | refine wIs fun K hK => ?_ | refine wOs fun K hK => ?_ | refine wQs fun K hK => ?_ | refine CallK_plain ?_ | refine CallQ_plain ?_ | refine CallR_plain ?_ | refine wCond ?_); simp [h1]) | (refine wIn ?_; refine And.intro (by kernel_rfl) ?_; try simp only [thenA_n]) | (first | refine wBlock ?_ | refine wScope ?_) | ((first | refine wRet ?_ | refine wExit ?_ | refine wSkip ?_); try simp) | ((first | refine wLabel ?_ | refine wOn ?_ | refine wQn ?_); try simp only [thenA_n])
  all_goals apply hr
  all_goals refine ⟨[], by simp, by simp, ?_⟩
  all_goals simp [Tryz.f33, outR, outB, renB, gaN]
 ·rw [if_neg h1]
  have hw : IntKind.i64.wrap (fuse - 1) = fuse - 1 := by rw [wrap_id] <;> omega
  by_cases h2 : fuse = 1
  ·subst h2
   rw [if_pos rfl, if_pos rfl]
   have hw0 : IntKind.i64.wrap 0 = 0 := by rw [wrap_id] <;> omega
   refine wBodyG Tryz.tab Tryz.mixed Tryz.func33 rfl rfl Tryz.ntmps33 (by simp) (by simp) fun Q hr hn hp => ?_
   repeat' first | (refine hK _ ?_; clear hK) | (refine hK _ _ ?_; clear hK) | (clear hK; refine hK _ ?_; clear hK) | (clear hK; clear hK; refine hK _ ?_; clear hK) | (clear hK; clear hK; clear hK; refine hK _ ?_; clear hK) | (clear hK; clear hK; clear hK; clear hK; refine hK _ ?_; clear hK) | (refine wSeq fun K hK => ?_) | ((first | refine wReg ?_ | refine wDrwQ rfl (by kernel_rfl) ?_ | refine wDrwI ?_ | refine wDrw (by kernel_rfl) ?_); simp only [List.map_cons, List.map_nil, strip]) | ((first | refine wIs fun K hK => ?_ | refine wOs fun K hK => ?_ | refine wQs fun K hK => ?_ | refine CallK_plain ?_ | refine CallQ_plain ?_ | refine CallR_plain ?_ | refine wCond ?_); simp [h1, hw0]) | (refine wIn ?_; refine And.intro (by kernel_rfl) ?_; try simp only [thenA_n]) | (first | refine wBlock ?_ | refine wScope ?_) | ((first | refine wRet ?_ | refine wExit ?_ | refine wSkip ?_); try simp) | ((first | refine wLabel ?_ | refine wOn ?_ | refine wQn ?_); try simp only [thenA_n])
   all_goals apply hr
   all_goals refine ⟨[], by simp, by simp, ?_⟩
   all_goals simp [Tryz.f33, outR, outB, renB, gaN, hw0]
  ·rw [if_neg h2, if_neg h2]
   have h3 : 1 < fuse := by omega
   refine wBodyG Tryz.tab Tryz.mixed Tryz.func33 rfl rfl Tryz.ntmps33 (by simp) (by simp) fun Q hr hn hp => ?_
   repeat' first | (refine hK _ ?_; clear hK) | (refine hK _ _ ?_; clear hK) | (clear hK; refine hK _ ?_; clear hK) | (clear hK; clear hK; refine hK _ ?_; clear hK) | (clear hK; clear hK; clear hK; refine hK _ ?_; clear hK) | (clear hK; clear hK; clear hK; clear hK; refine hK _ ?_; clear hK) | (refine wSeq fun K hK => ?_) | ((first | refine wReg ?_ | refine wDrwQ rfl (by kernel_rfl) ?_ | refine wDrwI ?_ | refine wDrw (by kernel_rfl) ?_); simp only [List.map_cons, List.map_nil, strip]) | ((first | refine wIs fun K hK => ?_ | refine wOs fun K hK => ?_ | refine wQs fun K hK => ?_ | refine CallK_plain ?_ | refine CallQ_plain ?_ | refine CallR_plain ?_ | refine wCond ?_); simp [h1, hw, h3]) | (refine wIn ?_; refine And.intro (by kernel_rfl) ?_; try simp only [thenA_n]) | (first | refine wBlock ?_ | refine wScope ?_) | ((first | refine wRet ?_ | refine wExit ?_ | refine wSkip ?_); try simp) | ((first | refine wLabel ?_ | refine wOn ?_ | refine wQn ?_); try simp only [thenA_n])
   all_goals apply hr
   all_goals refine ⟨[], by simp, by simp, ?_⟩
   all_goals simp [Tryz.f33, outR, outB, renB, gaN, hw]
def openE (d : Dk) (nm : List UInt8) : Int := if d.dn = true then 9 else if isF d.fs nm = true then 0 else 6
theorem openD_con (d : Dk) (nm : List UInt8) (hl : d.fs.length <= 1000000) : ACon Tryz.prog 51 [.p (.agg d.cells), .p (SB nm)] (.p (I (openE d nm))) := by
 obtain ⟨fs, cap, fuse, dn⟩ := d
 simp only at hl
 unfold Dk.cells openE
 dsimp only
 have c := find_con fs nm hl
 cases dn <;> cases hi : isF fs nm <;> rw [hi] at c <;> simp only [if_true, if_false, Bool.false_eq_true]
 all_goals
  refine wBody Tryz.tab Tryz.mixed Tryz.func51 rfl rfl Tryz.ntmps51 (by simp) (by simp) fun Q hr hn => ?_
  repeat' first | (refine hK _ ?_; clear hK) | (refine hK _ _ ?_; clear hK) | (clear hK; refine hK _ ?_; clear hK) | (clear hK; clear hK; refine hK _ ?_; clear hK) | (clear hK; clear hK; clear hK; refine hK _ ?_; clear hK) | (clear hK; clear hK; clear hK; clear hK; refine hK _ ?_; clear hK) | (refine wSeq fun K hK => ?_) | ((first | refine wReg ?_ | refine wDrwQ rfl (by kernel_rfl) ?_ | refine wDrwI ?_ | refine wDrw (by kernel_rfl) ?_); simp only [List.map_cons, List.map_nil, strip]) | ((first | refine wIs fun K hK => ?_ | refine wOs fun K hK => ?_ | refine wQs fun K hK => ?_ | refine CallK_plain ?_ | refine CallQ_plain ?_ | refine CallR_plain ?_ | refine wCond ?_); simp) | (refine wIn ?_; refine And.intro (by kernel_rfl) ?_; try simp only [thenA_n]) | (first | refine wBlock ?_ | refine wScope ?_) | ((first | refine wRet ?_ | refine wExit ?_ | refine wSkip ?_); try simp) | ((first | refine wLabel ?_ | refine wOn ?_ | refine wQn ?_); try simp only [thenA_n]) | (refine CallE.pure (c) rfl ?_) | (refine CallE.lent (c) rfl ?_) | (refine CallF.pure (c) rfl ?_) | (refine CallF.lent (c) rfl ?_) | (refine CallE.own (c) ?_) | (refine CallH.pure (c) rfl ?_) | (refine CallH.lent (c) rfl ?_) | (refine CallH.own (c) ?_)
  all_goals apply hr
  all_goals simp [Tryz.f51]
theorem sync1_con (f : Fl) (hl : f.d.length <= 1000000000) : Con Tryz.prog 35 [.ptr 1024 0] [.box 62 [.p (SB f.n), .p (.sl 1 (by8 f.d)), .p (I f.s)]] (.ret (.p (I 0)) [] [.box 62 [.p (SB f.n), .p (.sl 1 (by8 f.d)), .p (I f.d.length)]]) := by
 have hl' : f.d.length < 9223372036854775808 := by omega
 refine wBodyG Tryz.tab Tryz.mixed Tryz.func35 rfl rfl Tryz.ntmps35 (by simp) (by simp) fun Q hr hn hp => ?_
 repeat' first | (refine hK _ ?_; clear hK) | (refine hK _ _ ?_; clear hK) | (clear hK; refine hK _ ?_; clear hK) | (clear hK; clear hK; refine hK _ ?_; clear hK) | (clear hK; clear hK; clear hK; refine hK _ ?_; clear hK) | (clear hK; clear hK; clear hK; clear hK; refine hK _ ?_; clear hK) | (refine wSeq fun K hK => ?_) | ((first | refine wReg ?_ | refine wDrwQ rfl (by kernel_rfl) ?_ | refine wDrwI ?_ | refine wDrw (by kernel_rfl) ?_); simp only [List.map_cons, List.map_nil, strip]) | ((first | refine wIs fun K hK => ?_ | refine wOs fun K hK => ?_ | refine wQs fun K hK => ?_ | refine CallK_plain ?_ | refine CallQ_plain ?_ | refine CallR_plain ?_ | refine wCond ?_); simp [hl']) | (refine wIn ?_; refine And.intro (by kernel_rfl) ?_; try simp only [thenA_n]) | (first | refine wBlock ?_ | refine wScope ?_) | ((first | refine wRet ?_ | refine wExit ?_ | refine wSkip ?_); try simp) | ((first | refine wLabel ?_ | refine wOn ?_ | refine wQn ?_); try simp only [thenA_n])
 all_goals apply hr
 all_goals refine ⟨[], by simp, by simp, ?_⟩
 all_goals simp [Tryz.f35, outR, outB, renB, gaN]
def cutE (f : Fl) (n : Int) : Int := if n < 0 \/ (f.d.length : Int) < n then 1 else 0
def cutF (f : Fl) (n : Int) : Fl := if n < 0 \/ (f.d.length : Int) < n then f else ⟨f.n, f.d.take n.toNat, n⟩
set_option maxHeartbeats 1000000 in
theorem cut1_con (f : Fl) (n : Int) (hl : f.d.length <= 10000000) : Con Tryz.prog 40 [.ptr 1024 0, .rptr [I n] 0] [.box 62 [.p (SB f.n), .p (.sl 1 (by8 f.d)), .p (I f.s)]] (.ret (.p (I (cutE f n))) [] [.box 62 [.p (SB (cutF f n).n), .p (.sl 1 (by8 (cutF f n).d)), .p (I (cutF f n).s)]]) := by
 unfold cutE cutF
 by_cases h1 : n < 0
 ·rw [if_pos (Or.inl h1), if_pos (Or.inl h1)]
  refine wBodyG Tryz.tab Tryz.mixed Tryz.func40 rfl rfl Tryz.ntmps40 (by simp) (by simp) fun Q hr hn hp => ?_
  repeat' first | (refine hK _ ?_; clear hK) | (refine hK _ _ ?_; clear hK) | (clear hK; refine hK _ ?_; clear hK) | (clear hK; clear hK; refine hK _ ?_; clear hK) | (clear hK; clear hK; clear hK; refine hK _ ?_; clear hK) | (clear hK; clear hK; clear hK; clear hK; refine hK _ ?_; clear hK) | (refine wSeq fun K hK => ?_) | ((first | refine wReg ?_ | refine wDrwQ rfl (by kernel_rfl) ?_ | refine wDrwI ?_ | refine wDrw (by kernel_rfl) ?_); simp only [List.map_cons, List.map_nil, strip]) | ((first | refine wIs fun K hK => ?_ | refine wOs fun K hK => ?_ | refine wQs fun K hK => ?_ | refine CallK_plain ?_ | refine CallQ_plain ?_ | refine CallR_plain ?_ | refine wCond ?_); simp [h1]) | (refine wIn ?_; refine And.intro (by kernel_rfl) ?_; try simp only [thenA_n]) | (first | refine wBlock ?_ | refine wScope ?_) | ((first | refine wRet ?_ | refine wExit ?_ | refine wSkip ?_); try simp) | ((first | refine wLabel ?_ | refine wOn ?_ | refine wQn ?_); try simp only [thenA_n])
  all_goals apply hr
  all_goals refine ⟨[], by simp, by simp, ?_⟩
  all_goals simp [Tryz.f40, outR, outB, renB, gaN]
 by_cases h2 : (f.d.length : Int) < n
 ·rw [if_pos (Or.inr h2), if_pos (Or.inr h2)]
  refine wBodyG Tryz.tab Tryz.mixed Tryz.func40 rfl rfl Tryz.ntmps40 (by simp) (by simp) fun Q hr hn hp => ?_
  repeat' first | (refine hK _ ?_; clear hK) | (refine hK _ _ ?_; clear hK) | (clear hK; refine hK _ ?_; clear hK) | (clear hK; clear hK; refine hK _ ?_; clear hK) | (clear hK; clear hK; clear hK; refine hK _ ?_; clear hK) | (clear hK; clear hK; clear hK; clear hK; refine hK _ ?_; clear hK) | (refine wSeq fun K hK => ?_) | ((first | refine wReg ?_ | refine wDrwQ rfl (by kernel_rfl) ?_ | refine wDrwI ?_ | refine wDrw (by kernel_rfl) ?_); simp only [List.map_cons, List.map_nil, strip]) | ((first | refine wIs fun K hK => ?_ | refine wOs fun K hK => ?_ | refine wQs fun K hK => ?_ | refine CallK_plain ?_ | refine CallQ_plain ?_ | refine CallR_plain ?_ | refine wCond ?_); simp [h1, h2]) | (refine wIn ?_; refine And.intro (by kernel_rfl) ?_; try simp only [thenA_n]) | (first | refine wBlock ?_ | refine wScope ?_) | ((first | refine wRet ?_ | refine wExit ?_ | refine wSkip ?_); try simp) | ((first | refine wLabel ?_ | refine wOn ?_ | refine wQn ?_); try simp only [thenA_n])
  all_goals apply hr
  all_goals refine ⟨[], by simp, by simp, ?_⟩
  all_goals simp [Tryz.f40, outR, outB, renB, gaN]
 rw [if_neg (by omega), if_neg (by omega)]
 obtain ⟨m, rfl⟩ : ∃ m : Nat, n = m := ⟨n.toNat, by omega⟩
 have h3 : m <= f.d.length := by omega
 have h3' : (m : Int) <= f.d.length := by omega
 have c := (joined_con (f.d.take m) [] (by simp; omega)).toPure
 rw [List.append_nil] at c
 simp only [show by8 [] = [] from rfl] at c
 have e := by8_take f.d m
 refine wBodyG Tryz.tab Tryz.mixed Tryz.func40 rfl rfl Tryz.ntmps40 (by simp) (by simp) fun Q hr hn hp => ?_
 repeat' first | (refine wDrwI ?_; simp only [List.map_cons, List.map_nil, strip]) | (refine hK _ ?_; clear hK) | (refine hK _ _ ?_; clear hK) | (clear hK; refine hK _ ?_; clear hK) | (clear hK; clear hK; refine hK _ ?_; clear hK) | (clear hK; clear hK; clear hK; refine hK _ ?_; clear hK) | (clear hK; clear hK; clear hK; clear hK; refine hK _ ?_; clear hK) | (refine wSeq fun K hK => ?_) | ((first | refine wReg ?_ | refine wDrwQ rfl (by kernel_rfl) ?_ | refine wDrwI ?_ | refine wDrw (by kernel_rfl) ?_); simp only [List.map_cons, List.map_nil, strip]) | ((first | refine wIs fun K hK => ?_ | refine wOs fun K hK => ?_ | refine wQs fun K hK => ?_ | refine CallK_plain ?_ | refine CallQ_plain ?_ | refine CallR_plain ?_ | refine wCond ?_); simp [h1, h2, h3, h3', e]) | (refine wIn ?_; refine And.intro (by kernel_rfl) ?_; try simp only [thenA_n]) | (first | refine wBlock ?_ | refine wScope ?_) | ((first | refine wRet ?_ | refine wExit ?_ | refine wSkip ?_); try simp) | ((first | refine wLabel ?_ | refine wOn ?_ | refine wQn ?_); try simp only [thenA_n]) | (refine CallE.pure (c) rfl ?_) | (refine CallE.lent (c) rfl ?_) | (refine CallF.pure (c) rfl ?_) | (refine CallF.lent (c) rfl ?_) | (refine CallE.own (c) ?_) | (refine CallH.pure (c) rfl ?_) | (refine CallH.lent (c) rfl ?_) | (refine CallH.own (c) ?_)
 all_goals apply hr
 all_goals refine ⟨[], by simp, by simp, ?_⟩
 all_goals simp [Tryz.f40, outR, outB, renB, gaN]
def gF (l : List Fl) (nm : List UInt8) : Fl := l.getD (fiF l nm) ⟨[], [], 0⟩
theorem isF_lt {l : List Fl} {nm : List UInt8} (h : isF l nm = true) : fiF l nm < l.length := by
 unfold isF at h
 by_cases h' : fiF l nm < l.length
 ·exact h'
 ·rw [List.getElem?_eq_none (by omega)] at h; simp at h
theorem gF_eq {l : List Fl} {nm : List UInt8} (h : fiF l nm < l.length) : gF l nm = l[fiF l nm] := by
 unfold gF; rw [List.getD_eq_getElem?_getD, List.getElem?_eq_getElem h]; rfl
theorem isF_eq {l : List Fl} {nm : List UInt8} (h : isF l nm = true) : l[fiF l nm]'(isF_lt h) = gF l nm /\ (gF l nm).n = nm := by
 have h1 := isF_lt h
 refine ⟨(gF_eq h1).symm, ?_⟩
 rw [gF_eq h1]
 unfold isF at h
 rw [List.getElem?_eq_getElem h1] at h
 simpa using h
def brn (d : Dk) : Dk := ⟨d.fs, d.cap, burnF d.fuse, burnN d.fuse d.dn⟩
def chg (d : Dk) (nm : List UInt8) (g : Fl -> Fl) (e : Fl -> Int) : Dk × Int :=
 if d.dn = true then (d, 9) else if isF d.fs nm = true then
  (if e (gF d.fs nm) = 0 then (if d.fuse = 1 then (brn d, 9) else (⟨d.fs.set (fiF d.fs nm) (g (gF d.fs nm)), d.cap, burnF d.fuse, d.dn⟩, 0)) else (d, e (gF d.fs nm)))
 else (d, 6)
def synF (f : Fl) : Fl := ⟨f.n, f.d, f.d.length⟩
structure OkK (x : Dk) : Prop extends OkD x where
 fu : x.fuse <= 9223372036854775807
set_option maxHeartbeats 4000000 in
theorem changeS_con (d : Dk) (nm : List UInt8) (hk : OkK d) : ACon Tryz.prog 34 [.p (.agg d.cells), .p (SB nm), .p (.v (.func (.func 35) #[] #[]))] (.tup [.p (.agg (chg d nm synF (fun _ => 0)).1.cells), .p (I (chg d nm synF (fun _ => 0)).2)]) := by
 have c1 := own13_con d hk.toOkD
 have c2 := openD_con d nm (by have := hk.n; omega)
 have c3 := find_con d.fs nm (by have := hk.n; omega)
 have c5 := burn_con (fls d.fs) d.cap d.fuse d.dn hk.fu
 have hkd := hk.d
 obtain ⟨fs, cap, fuse, dn⟩ := d
 simp only at c1 c2 c3 c5 hkd
 unfold openE at c2
 unfold chg brn Dk.cells
 unfold Dk.cells at c1 c2
 dsimp only at c1 c2 ⊢
 cases dn with
 | true =>
  simp only [if_true] at c2 ⊢
  refine wBody Tryz.tab Tryz.mixed Tryz.func34 rfl rfl Tryz.ntmps34 (by simp) (by simp) fun Q hr hn => ?_
  repeat' first | (refine CallK_gen [] (c1) (by decide) (by decide) (by simp [blksOf]) (by simp [argsG, argG, ren0, inN, pos, renCs, renC, toP, toPF]) ⟨[500], by simp, by simp, ?_⟩; simp [lv, ouN, kpI, kpR, pos, ren, ren0, renB, renC, renCs, renF, renFs]) | (refine hK _ ?_; clear hK) | (refine hK _ _ ?_; clear hK) | (clear hK; refine hK _ ?_; clear hK) | (clear hK; clear hK; refine hK _ ?_; clear hK) | (clear hK; clear hK; clear hK; refine hK _ ?_; clear hK) | (clear hK; clear hK; clear hK; clear hK; refine hK _ ?_; clear hK) | (refine wSeq fun K hK => ?_) | ((first | refine wReg ?_ | refine wDrwQ rfl (by kernel_rfl) ?_ | refine wDrwI ?_ | refine wDrw (by kernel_rfl) ?_); simp only [List.map_cons, List.map_nil, strip]) | ((first | refine wIs fun K hK => ?_ | refine wOs fun K hK => ?_ | refine wQs fun K hK => ?_ | refine CallK_plain ?_ | refine CallQ_plain ?_ | refine CallR_plain ?_ | refine wCond ?_); simp [lv, ouN, kpI, kpR, pos, ren, ren0, renB, renC, renCs, renF, renFs]) | (refine wIn ?_; refine And.intro (by kernel_rfl) ?_; try simp only [thenA_n]) | (first | refine wBlock ?_ | refine wScope ?_) | ((first | refine wRet ?_ | refine wExit ?_ | refine wSkip ?_); try simp) | ((first | refine wLabel ?_ | refine wOn ?_ | refine wQn ?_); try simp only [thenA_n]) | (refine CallE.pure (c2) rfl ?_) | (refine CallE.lent (c2) rfl ?_) | (refine CallF.pure (c2) rfl ?_) | (refine CallF.lent (c2) rfl ?_) | (refine CallE.own (c2) ?_) | (refine CallH.pure (c2) rfl ?_) | (refine CallH.lent (c2) rfl ?_) | (refine CallH.own (c2) ?_)
  all_goals apply hr
  all_goals simp [Tryz.f34]
 | false =>
  simp only [Bool.false_eq_true, if_false] at c2 ⊢
  cases hi : isF fs nm with
  | false =>
   rw [hi] at c2
   simp only [Bool.false_eq_true, if_false] at c2 ⊢
   refine wBody Tryz.tab Tryz.mixed Tryz.func34 rfl rfl Tryz.ntmps34 (by simp) (by simp) fun Q hr hn => ?_
   repeat' first | (refine CallK_gen [] (c1) (by decide) (by decide) (by simp [blksOf]) (by simp [argsG, argG, ren0, inN, pos, renCs, renC, toP, toPF]) ⟨[500], by simp, by simp, ?_⟩; simp [lv, ouN, kpI, kpR, pos, ren, ren0, renB, renC, renCs, renF, renFs]) | (refine hK _ ?_; clear hK) | (refine hK _ _ ?_; clear hK) | (clear hK; refine hK _ ?_; clear hK) | (clear hK; clear hK; refine hK _ ?_; clear hK) | (clear hK; clear hK; clear hK; refine hK _ ?_; clear hK) | (clear hK; clear hK; clear hK; clear hK; refine hK _ ?_; clear hK) | (refine wSeq fun K hK => ?_) | ((first | refine wReg ?_ | refine wDrwQ rfl (by kernel_rfl) ?_ | refine wDrwI ?_ | refine wDrw (by kernel_rfl) ?_); simp only [List.map_cons, List.map_nil, strip]) | ((first | refine wIs fun K hK => ?_ | refine wOs fun K hK => ?_ | refine wQs fun K hK => ?_ | refine CallK_plain ?_ | refine CallQ_plain ?_ | refine CallR_plain ?_ | refine wCond ?_); simp [lv, ouN, kpI, kpR, pos, ren, ren0, renB, renC, renCs, renF, renFs]) | (refine wIn ?_; refine And.intro (by kernel_rfl) ?_; try simp only [thenA_n]) | (first | refine wBlock ?_ | refine wScope ?_) | ((first | refine wRet ?_ | refine wExit ?_ | refine wSkip ?_); try simp) | ((first | refine wLabel ?_ | refine wOn ?_ | refine wQn ?_); try simp only [thenA_n]) | (refine CallE.pure (c2) rfl ?_) | (refine CallE.lent (c2) rfl ?_) | (refine CallF.pure (c2) rfl ?_) | (refine CallF.lent (c2) rfl ?_) | (refine CallE.own (c2) ?_) | (refine CallH.pure (c2) rfl ?_) | (refine CallH.lent (c2) rfl ?_) | (refine CallH.own (c2) ?_)
   all_goals apply hr
   all_goals simp [Tryz.f34]
  | true =>
   rw [hi] at c2 c3
   simp only [if_true] at c2 ⊢
   have hlt := isF_lt hi
   have hg := (isF_eq hi).1
   have hdl := hkd _ (List.getElem_mem hlt)
   have he := fls_get hlt
   simp only [hg] at he hdl
   have c4 := sync1_con (gF fs nm) (by omega)
   have hst := fls_set fs (fiF fs nm) (synF (gF fs nm))
   have hg2 : fs[fiF fs nm]'hlt = gF fs nm := hg
   clear hg
   generalize gF fs nm = f at *
   generalize fiF fs nm = i at *
   have hE : (fun _ => 0) f = 0 := rfl
   skip
   skip
   by_cases hf : fuse = 1
   ·rw [if_pos hf]
    unfold burnE burnN at c5
    unfold burnN
    rw [if_pos hf, if_pos hf] at c5
    rw [if_pos hf]
    refine wBody Tryz.tab Tryz.mixed Tryz.func34 rfl rfl Tryz.ntmps34 (by simp) (by simp) fun Q hr hn => ?_
    repeat' first | (refine CallK_gen [] (c1) (by decide) (by decide) (by simp [blksOf]) (by simp [argsG, argG, ren0, inN, pos, renCs, renC, toP, toPF]) ⟨[500], by simp, by simp, ?_⟩; simp [lv, ouN, kpI, kpR, pos, ren, ren0, renB, renC, renCs, renF, renFs]) | (refine CallK_gen [11] (c4) (by decide) (by decide) (by simp [blksOf, inN, pos, renB, renC, renCs, ren0, lv, ouN, kpI, kpR]) (by simp [argsG, argG, ren0, inN, pos, renCs, renC]) ⟨[], by simp, by simp, ?_⟩; simp [lv, ouN, kpI, kpR, pos, ren, ren0, renB, renC, renCs, renF, renFs]) | (refine CallK_gen [3, 500] (c5) (by decide) (by decide) (by simp [blksOf, inN, pos, renB, renC, renCs, ren0, lv, ouN, kpI, kpR]) (by simp [argsG, argG, ren0, inN, pos, renCs, renC]) ⟨[], by simp, by simp, ?_⟩; simp [lv, ouN, kpI, kpR, pos, ren, ren0, renB, renC, renCs, renF, renFs]) | (refine hK _ ?_; clear hK) | (refine hK _ _ ?_; clear hK) | (clear hK; refine hK _ ?_; clear hK) | (clear hK; clear hK; refine hK _ ?_; clear hK) | (clear hK; clear hK; clear hK; refine hK _ ?_; clear hK) | (clear hK; clear hK; clear hK; clear hK; refine hK _ ?_; clear hK) | (refine wSeq fun K hK => ?_) | ((first | refine wReg ?_ | refine wDrwQ rfl (by kernel_rfl) ?_ | refine wDrwI ?_ | refine wDrw (by kernel_rfl) ?_); simp only [List.map_cons, List.map_nil, strip]) | ((first | refine wIs fun K hK => ?_ | refine wOs fun K hK => ?_ | refine wQs fun K hK => ?_ | refine CallK_plain ?_ | refine CallQ_plain ?_ | refine CallR_plain ?_ | refine wCond ?_); simp [lv, ouN, kpI, kpR, pos, ren, ren0, renB, renC, renCs, renF, renFs, hlt, he, hg2, Cap.free]) | (refine wIn ?_; refine And.intro (by kernel_rfl) ?_; try simp only [thenA_n]) | (first | refine wBlock ?_ | refine wScope ?_) | ((first | refine wRet ?_ | refine wExit ?_ | refine wSkip ?_); try simp) | ((first | refine wLabel ?_ | refine wOn ?_ | refine wQn ?_); try simp only [thenA_n]) | (refine CallE.pure (c2) rfl ?_) | (refine CallE.lent (c2) rfl ?_) | (refine CallF.pure (c2) rfl ?_) | (refine CallF.lent (c2) rfl ?_) | (refine CallE.own (c2) ?_) | (refine CallH.pure (c2) rfl ?_) | (refine CallH.lent (c2) rfl ?_) | (refine CallH.own (c2) ?_) | (refine CallE.pure (c3) rfl ?_) | (refine CallE.lent (c3) rfl ?_) | (refine CallF.pure (c3) rfl ?_) | (refine CallF.lent (c3) rfl ?_) | (refine CallE.own (c3) ?_) | (refine CallH.pure (c3) rfl ?_) | (refine CallH.lent (c3) rfl ?_) | (refine CallH.own (c3) ?_)
    all_goals apply hr
    all_goals simp [Tryz.f34]
   ·rw [if_neg hf]
    unfold burnE burnN at c5
    rw [if_neg hf, if_neg hf] at c5
    refine wBody Tryz.tab Tryz.mixed Tryz.func34 rfl rfl Tryz.ntmps34 (by simp) (by simp) fun Q hr hn => ?_
    repeat' first | (refine CallK_gen [] (c1) (by decide) (by decide) (by simp [blksOf]) (by simp [argsG, argG, ren0, inN, pos, renCs, renC, toP, toPF]) ⟨[500], by simp, by simp, ?_⟩; simp [lv, ouN, kpI, kpR, pos, ren, ren0, renB, renC, renCs, renF, renFs]) | (refine CallK_gen [11] (c4) (by decide) (by decide) (by simp [blksOf, inN, pos, renB, renC, renCs, ren0, lv, ouN, kpI, kpR]) (by simp [argsG, argG, ren0, inN, pos, renCs, renC]) ⟨[], by simp, by simp, ?_⟩; simp [lv, ouN, kpI, kpR, pos, ren, ren0, renB, renC, renCs, renF, renFs]) | (refine CallK_gen [3, 500] (c5) (by decide) (by decide) (by simp [blksOf, inN, pos, renB, renC, renCs, ren0, lv, ouN, kpI, kpR]) (by simp [argsG, argG, ren0, inN, pos, renCs, renC]) ⟨[], by simp, by simp, ?_⟩; simp [lv, ouN, kpI, kpR, pos, ren, ren0, renB, renC, renCs, renF, renFs]) | (refine hK _ ?_; clear hK) | (refine hK _ _ ?_; clear hK) | (clear hK; refine hK _ ?_; clear hK) | (clear hK; clear hK; refine hK _ ?_; clear hK) | (clear hK; clear hK; clear hK; refine hK _ ?_; clear hK) | (clear hK; clear hK; clear hK; clear hK; refine hK _ ?_; clear hK) | (refine wSeq fun K hK => ?_) | ((first | refine wReg ?_ | refine wDrwQ rfl (by kernel_rfl) ?_ | refine wDrwI ?_ | refine wDrw (by kernel_rfl) ?_); simp only [List.map_cons, List.map_nil, strip]) | ((first | refine wIs fun K hK => ?_ | refine wOs fun K hK => ?_ | refine wQs fun K hK => ?_ | refine CallK_plain ?_ | refine CallQ_plain ?_ | refine CallR_plain ?_ | refine wCond ?_); simp [lv, ouN, kpI, kpR, pos, ren, ren0, renB, renC, renCs, renF, renFs, hlt, he, hg2, Cap.free, hst]) | (refine wIn ?_; refine And.intro (by kernel_rfl) ?_; try simp only [thenA_n]) | (first | refine wBlock ?_ | refine wScope ?_) | ((first | refine wRet ?_ | refine wExit ?_ | refine wSkip ?_); try simp) | ((first | refine wLabel ?_ | refine wOn ?_ | refine wQn ?_); try simp only [thenA_n]) | (refine CallE.pure (c2) rfl ?_) | (refine CallE.lent (c2) rfl ?_) | (refine CallF.pure (c2) rfl ?_) | (refine CallF.lent (c2) rfl ?_) | (refine CallE.own (c2) ?_) | (refine CallH.pure (c2) rfl ?_) | (refine CallH.lent (c2) rfl ?_) | (refine CallH.own (c2) ?_) | (refine CallE.pure (c3) rfl ?_) | (refine CallE.lent (c3) rfl ?_) | (refine CallF.pure (c3) rfl ?_) | (refine CallF.lent (c3) rfl ?_) | (refine CallE.own (c3) ?_) | (refine CallH.pure (c3) rfl ?_) | (refine CallH.lent (c3) rfl ?_) | (refine CallH.own (c3) ?_)
    all_goals apply hr
    all_goals simp [Tryz.f34, hst]
    all_goals exact hst.symm
set_option maxHeartbeats 4000000 in
theorem changeC_con (d : Dk) (nm : List UInt8) (n : Int) (hk : OkK d) : ACon Tryz.prog 34 [.p (.agg d.cells), .p (SB nm), .clo 40 [.rp [I n] 0]] (.tup [.p (.agg (chg d nm (fun f => cutF f n) (fun f => cutE f n)).1.cells), .p (I (chg d nm (fun f => cutF f n) (fun f => cutE f n)).2)]) := by
 have c1 := own13_con d hk.toOkD
 have c2 := openD_con d nm (by have := hk.n; omega)
 have c3 := find_con d.fs nm (by have := hk.n; omega)
 have c5 := burn_con (fls d.fs) d.cap d.fuse d.dn hk.fu
 have hkd := hk.d
 obtain ⟨fs, cap, fuse, dn⟩ := d
 simp only at c1 c2 c3 c5 hkd
 unfold openE at c2
 unfold chg brn Dk.cells
 unfold Dk.cells at c1 c2
 dsimp only at c1 c2 ⊢
 cases dn with
 | true =>
  simp only [if_true] at c2 ⊢
  refine wBody Tryz.tab Tryz.mixed Tryz.func34 rfl rfl Tryz.ntmps34 (by simp) (by simp) fun Q hr hn => ?_
  repeat' first | (refine CallK_gen [] (c1) (by decide) (by decide) (by simp [blksOf]) (by simp [argsG, argG, ren0, inN, pos, renCs, renC, toP, toPF]) ⟨[500], by simp, by simp, ?_⟩; simp [lv, ouN, kpI, kpR, pos, ren, ren0, renB, renC, renCs, renF, renFs]) | (refine hK _ ?_; clear hK) | (refine hK _ _ ?_; clear hK) | (clear hK; refine hK _ ?_; clear hK) | (clear hK; clear hK; refine hK _ ?_; clear hK) | (clear hK; clear hK; clear hK; refine hK _ ?_; clear hK) | (clear hK; clear hK; clear hK; clear hK; refine hK _ ?_; clear hK) | (refine wSeq fun K hK => ?_) | ((first | refine wReg ?_ | refine wDrwQ rfl (by kernel_rfl) ?_ | refine wDrwI ?_ | refine wDrw (by kernel_rfl) ?_); simp only [List.map_cons, List.map_nil, strip]) | ((first | refine wIs fun K hK => ?_ | refine wOs fun K hK => ?_ | refine wQs fun K hK => ?_ | refine CallK_plain ?_ | refine CallQ_plain ?_ | refine CallR_plain ?_ | refine wCond ?_); simp [lv, ouN, kpI, kpR, pos, ren, ren0, renB, renC, renCs, renF, renFs]) | (refine wIn ?_; refine And.intro (by kernel_rfl) ?_; try simp only [thenA_n]) | (first | refine wBlock ?_ | refine wScope ?_) | ((first | refine wRet ?_ | refine wExit ?_ | refine wSkip ?_); try simp) | ((first | refine wLabel ?_ | refine wOn ?_ | refine wQn ?_); try simp only [thenA_n]) | (refine CallE.pure (c2) rfl ?_) | (refine CallE.lent (c2) rfl ?_) | (refine CallF.pure (c2) rfl ?_) | (refine CallF.lent (c2) rfl ?_) | (refine CallE.own (c2) ?_) | (refine CallH.pure (c2) rfl ?_) | (refine CallH.lent (c2) rfl ?_) | (refine CallH.own (c2) ?_)
  all_goals apply hr
  all_goals simp [Tryz.f34]
 | false =>
  simp only [Bool.false_eq_true, if_false] at c2 ⊢
  cases hi : isF fs nm with
  | false =>
   rw [hi] at c2
   simp only [Bool.false_eq_true, if_false] at c2 ⊢
   refine wBody Tryz.tab Tryz.mixed Tryz.func34 rfl rfl Tryz.ntmps34 (by simp) (by simp) fun Q hr hn => ?_
   repeat' first | (refine CallK_gen [] (c1) (by decide) (by decide) (by simp [blksOf]) (by simp [argsG, argG, ren0, inN, pos, renCs, renC, toP, toPF]) ⟨[500], by simp, by simp, ?_⟩; simp [lv, ouN, kpI, kpR, pos, ren, ren0, renB, renC, renCs, renF, renFs]) | (refine hK _ ?_; clear hK) | (refine hK _ _ ?_; clear hK) | (clear hK; refine hK _ ?_; clear hK) | (clear hK; clear hK; refine hK _ ?_; clear hK) | (clear hK; clear hK; clear hK; refine hK _ ?_; clear hK) | (clear hK; clear hK; clear hK; clear hK; refine hK _ ?_; clear hK) | (refine wSeq fun K hK => ?_) | ((first | refine wReg ?_ | refine wDrwQ rfl (by kernel_rfl) ?_ | refine wDrwI ?_ | refine wDrw (by kernel_rfl) ?_); simp only [List.map_cons, List.map_nil, strip]) | ((first | refine wIs fun K hK => ?_ | refine wOs fun K hK => ?_ | refine wQs fun K hK => ?_ | refine CallK_plain ?_ | refine CallQ_plain ?_ | refine CallR_plain ?_ | refine wCond ?_); simp [lv, ouN, kpI, kpR, pos, ren, ren0, renB, renC, renCs, renF, renFs]) | (refine wIn ?_; refine And.intro (by kernel_rfl) ?_; try simp only [thenA_n]) | (first | refine wBlock ?_ | refine wScope ?_) | ((first | refine wRet ?_ | refine wExit ?_ | refine wSkip ?_); try simp) | ((first | refine wLabel ?_ | refine wOn ?_ | refine wQn ?_); try simp only [thenA_n]) | (refine CallE.pure (c2) rfl ?_) | (refine CallE.lent (c2) rfl ?_) | (refine CallF.pure (c2) rfl ?_) | (refine CallF.lent (c2) rfl ?_) | (refine CallE.own (c2) ?_) | (refine CallH.pure (c2) rfl ?_) | (refine CallH.lent (c2) rfl ?_) | (refine CallH.own (c2) ?_)
   all_goals apply hr
   all_goals simp [Tryz.f34]
  | true =>
   rw [hi] at c2 c3
   simp only [if_true] at c2 ⊢
   have hlt := isF_lt hi
   have hg := (isF_eq hi).1
   have hdl := hkd _ (List.getElem_mem hlt)
   have he := fls_get hlt
   simp only [hg] at he hdl
   have c4 := cut1_con (gF fs nm) n hdl
   have hst := fls_set fs (fiF fs nm) (cutF (gF fs nm) n)
   have hg2 : fs[fiF fs nm]'hlt = gF fs nm := hg
   clear hg
   generalize gF fs nm = f at *
   generalize fiF fs nm = i at *
   by_cases hE : cutE f n = 0
   ·rw [if_pos hE]
    simp only [hE] at c4
    by_cases hf : fuse = 1
    ·rw [if_pos hf]
     unfold burnE burnN at c5
     unfold burnN
     rw [if_pos hf, if_pos hf] at c5
     rw [if_pos hf]
     refine wBody Tryz.tab Tryz.mixed Tryz.func34 rfl rfl Tryz.ntmps34 (by simp) (by simp) fun Q hr hn => ?_
     repeat' first | (refine CallK_gen [] (c1) (by decide) (by decide) (by simp [blksOf]) (by simp [argsG, argG, ren0, inN, pos, renCs, renC, toP, toPF]) ⟨[500], by simp, by simp, ?_⟩; simp [lv, ouN, kpI, kpR, pos, ren, ren0, renB, renC, renCs, renF, renFs]) | (refine CallK_gen [11] (c4) (by decide) (by decide) (by simp [blksOf, inN, pos, renB, renC, renCs, ren0, lv, ouN, kpI, kpR]) (by simp [argsG, argG, ren0, inN, pos, renCs, renC]) ⟨[], by simp, by simp, ?_⟩; simp [lv, ouN, kpI, kpR, pos, ren, ren0, renB, renC, renCs, renF, renFs]) | (refine CallK_gen [3, 500] (c5) (by decide) (by decide) (by simp [blksOf, inN, pos, renB, renC, renCs, ren0, lv, ouN, kpI, kpR]) (by simp [argsG, argG, ren0, inN, pos, renCs, renC]) ⟨[], by simp, by simp, ?_⟩; simp [lv, ouN, kpI, kpR, pos, ren, ren0, renB, renC, renCs, renF, renFs]) | (refine hK _ ?_; clear hK) | (refine hK _ _ ?_; clear hK) | (clear hK; refine hK _ ?_; clear hK) | (clear hK; clear hK; refine hK _ ?_; clear hK) | (clear hK; clear hK; clear hK; refine hK _ ?_; clear hK) | (clear hK; clear hK; clear hK; clear hK; refine hK _ ?_; clear hK) | (refine wSeq fun K hK => ?_) | ((first | refine wReg ?_ | refine wDrwQ rfl (by kernel_rfl) ?_ | refine wDrwI ?_ | refine wDrw (by kernel_rfl) ?_); simp only [List.map_cons, List.map_nil, strip]) | ((first | refine wIs fun K hK => ?_ | refine wOs fun K hK => ?_ | refine wQs fun K hK => ?_ | refine CallK_plain ?_ | refine CallQ_plain ?_ | refine CallR_plain ?_ | refine wCond ?_); simp [lv, ouN, kpI, kpR, pos, ren, ren0, renB, renC, renCs, renF, renFs, hlt, he, hg2, Cap.free]) | (refine wIn ?_; refine And.intro (by kernel_rfl) ?_; try simp only [thenA_n]) | (first | refine wBlock ?_ | refine wScope ?_) | ((first | refine wRet ?_ | refine wExit ?_ | refine wSkip ?_); try simp) | ((first | refine wLabel ?_ | refine wOn ?_ | refine wQn ?_); try simp only [thenA_n]) | (refine CallE.pure (c2) rfl ?_) | (refine CallE.lent (c2) rfl ?_) | (refine CallF.pure (c2) rfl ?_) | (refine CallF.lent (c2) rfl ?_) | (refine CallE.own (c2) ?_) | (refine CallH.pure (c2) rfl ?_) | (refine CallH.lent (c2) rfl ?_) | (refine CallH.own (c2) ?_) | (refine CallE.pure (c3) rfl ?_) | (refine CallE.lent (c3) rfl ?_) | (refine CallF.pure (c3) rfl ?_) | (refine CallF.lent (c3) rfl ?_) | (refine CallE.own (c3) ?_) | (refine CallH.pure (c3) rfl ?_) | (refine CallH.lent (c3) rfl ?_) | (refine CallH.own (c3) ?_)
     all_goals apply hr
     all_goals simp [Tryz.f34]
    ·rw [if_neg hf]
     unfold burnE burnN at c5
     rw [if_neg hf, if_neg hf] at c5
     refine wBody Tryz.tab Tryz.mixed Tryz.func34 rfl rfl Tryz.ntmps34 (by simp) (by simp) fun Q hr hn => ?_
     repeat' first | (refine CallK_gen [] (c1) (by decide) (by decide) (by simp [blksOf]) (by simp [argsG, argG, ren0, inN, pos, renCs, renC, toP, toPF]) ⟨[500], by simp, by simp, ?_⟩; simp [lv, ouN, kpI, kpR, pos, ren, ren0, renB, renC, renCs, renF, renFs]) | (refine CallK_gen [11] (c4) (by decide) (by decide) (by simp [blksOf, inN, pos, renB, renC, renCs, ren0, lv, ouN, kpI, kpR]) (by simp [argsG, argG, ren0, inN, pos, renCs, renC]) ⟨[], by simp, by simp, ?_⟩; simp [lv, ouN, kpI, kpR, pos, ren, ren0, renB, renC, renCs, renF, renFs]) | (refine CallK_gen [3, 500] (c5) (by decide) (by decide) (by simp [blksOf, inN, pos, renB, renC, renCs, ren0, lv, ouN, kpI, kpR]) (by simp [argsG, argG, ren0, inN, pos, renCs, renC]) ⟨[], by simp, by simp, ?_⟩; simp [lv, ouN, kpI, kpR, pos, ren, ren0, renB, renC, renCs, renF, renFs]) | (refine hK _ ?_; clear hK) | (refine hK _ _ ?_; clear hK) | (clear hK; refine hK _ ?_; clear hK) | (clear hK; clear hK; refine hK _ ?_; clear hK) | (clear hK; clear hK; clear hK; refine hK _ ?_; clear hK) | (clear hK; clear hK; clear hK; clear hK; refine hK _ ?_; clear hK) | (refine wSeq fun K hK => ?_) | ((first | refine wReg ?_ | refine wDrwQ rfl (by kernel_rfl) ?_ | refine wDrwI ?_ | refine wDrw (by kernel_rfl) ?_); simp only [List.map_cons, List.map_nil, strip]) | ((first | refine wIs fun K hK => ?_ | refine wOs fun K hK => ?_ | refine wQs fun K hK => ?_ | refine CallK_plain ?_ | refine CallQ_plain ?_ | refine CallR_plain ?_ | refine wCond ?_); simp [lv, ouN, kpI, kpR, pos, ren, ren0, renB, renC, renCs, renF, renFs, hlt, he, hg2, Cap.free, hst]) | (refine wIn ?_; refine And.intro (by kernel_rfl) ?_; try simp only [thenA_n]) | (first | refine wBlock ?_ | refine wScope ?_) | ((first | refine wRet ?_ | refine wExit ?_ | refine wSkip ?_); try simp) | ((first | refine wLabel ?_ | refine wOn ?_ | refine wQn ?_); try simp only [thenA_n]) | (refine CallE.pure (c2) rfl ?_) | (refine CallE.lent (c2) rfl ?_) | (refine CallF.pure (c2) rfl ?_) | (refine CallF.lent (c2) rfl ?_) | (refine CallE.own (c2) ?_) | (refine CallH.pure (c2) rfl ?_) | (refine CallH.lent (c2) rfl ?_) | (refine CallH.own (c2) ?_) | (refine CallE.pure (c3) rfl ?_) | (refine CallE.lent (c3) rfl ?_) | (refine CallF.pure (c3) rfl ?_) | (refine CallF.lent (c3) rfl ?_) | (refine CallE.own (c3) ?_) | (refine CallH.pure (c3) rfl ?_) | (refine CallH.lent (c3) rfl ?_) | (refine CallH.own (c3) ?_)
     all_goals apply hr
     all_goals simp [Tryz.f34, hst]
   ·rw [if_neg hE]
    refine wBody Tryz.tab Tryz.mixed Tryz.func34 rfl rfl Tryz.ntmps34 (by simp) (by simp) fun Q hr hn => ?_
    have hE2 : (cutE f n = 0) = False := eq_false hE
    repeat' first | (refine CallK_gen [] (c1) (by decide) (by decide) (by simp [blksOf]) (by simp [argsG, argG, ren0, inN, pos, renCs, renC, toP, toPF]) ⟨[500], by simp, by simp, ?_⟩; simp [lv, ouN, kpI, kpR, pos, ren, ren0, renB, renC, renCs, renF, renFs]) | (refine CallK_gen [11] (c4) (by decide) (by decide) (by simp [blksOf, inN, pos, renB, renC, renCs, ren0, lv, ouN, kpI, kpR]) (by simp [argsG, argG, ren0, inN, pos, renCs, renC]) ⟨[], by simp, by simp, ?_⟩; simp [lv, ouN, kpI, kpR, pos, ren, ren0, renB, renC, renCs, renF, renFs]) | (refine hK _ ?_; clear hK) | (refine hK _ _ ?_; clear hK) | (clear hK; refine hK _ ?_; clear hK) | (clear hK; clear hK; refine hK _ ?_; clear hK) | (clear hK; clear hK; clear hK; refine hK _ ?_; clear hK) | (clear hK; clear hK; clear hK; clear hK; refine hK _ ?_; clear hK) | (refine wSeq fun K hK => ?_) | ((first | refine wReg ?_ | refine wDrwQ rfl (by kernel_rfl) ?_ | refine wDrwI ?_ | refine wDrw (by kernel_rfl) ?_); simp only [List.map_cons, List.map_nil, strip]) | ((first | refine wIs fun K hK => ?_ | refine wOs fun K hK => ?_ | refine wQs fun K hK => ?_ | refine CallK_plain ?_ | refine CallQ_plain ?_ | refine CallR_plain ?_ | refine wCond ?_); simp [lv, ouN, kpI, kpR, pos, ren, ren0, renB, renC, renCs, renF, renFs, hlt, he, hg2, Cap.free, hE2]) | (refine wIn ?_; refine And.intro (by kernel_rfl) ?_; try simp only [thenA_n]) | (first | refine wBlock ?_ | refine wScope ?_) | ((first | refine wRet ?_ | refine wExit ?_ | refine wSkip ?_); try simp) | ((first | refine wLabel ?_ | refine wOn ?_ | refine wQn ?_); try simp only [thenA_n]) | (refine CallE.pure (c2) rfl ?_) | (refine CallE.lent (c2) rfl ?_) | (refine CallF.pure (c2) rfl ?_) | (refine CallF.lent (c2) rfl ?_) | (refine CallE.own (c2) ?_) | (refine CallH.pure (c2) rfl ?_) | (refine CallH.lent (c2) rfl ?_) | (refine CallH.own (c2) ?_) | (refine CallE.pure (c3) rfl ?_) | (refine CallE.lent (c3) rfl ?_) | (refine CallF.pure (c3) rfl ?_) | (refine CallF.lent (c3) rfl ?_) | (refine CallE.own (c3) ?_) | (refine CallH.pure (c3) rfl ?_) | (refine CallH.lent (c3) rfl ?_) | (refine CallH.own (c3) ?_)
    all_goals apply hr
    all_goals simp [Tryz.f34]
end Go.Proofs.YtbeofcbehhljdaaGreatDoor
