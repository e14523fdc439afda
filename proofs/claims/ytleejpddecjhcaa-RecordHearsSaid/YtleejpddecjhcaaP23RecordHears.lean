/- Texts that the proof needs: RGO RWA RG3 RG3a RG3b RG3c RGB RG6 RG6a. -/
import Derived.Test.YtleejpddecjhcaaP20RecordHears
import Derived.Test.YtleejpddecjhcaaP22RecordHears
import Derived.Test.YtleejpddecjhcaaP14RecordHears
namespace Go.Proofs.Ytleejpddecjhcaa
set_option linter.unusedSimpArgs false
set_option linter.unusedVariables false
set_option maxRecDepth 8000
open Go Go.Av Go.ChangeShapes Go.WideShapes Go.ChangeAt Go.RowKit
def KB (c : Nat) : Nat := 1
theorem hpos : PosK Try.T KB := by
 intro t yt e y h hk hy hs
 unfold Try.T at h
 split at h
 all_goals first | (cases h; done) | (cases h; cases hk; done) | (cases h; cases hk; cases hy; done) | (cases h; cases hk; cases hy; first | exact of_decide_eq_true (by kernel_rfl) | (simp at hs; done))
theorem by8_open {p : PV} (hp : ShT Try.T 22 p) : ∃ l, p = .sl 1 (by8 l) :=
 (hp.one (f := .sl [.int .u8]) rfl rfl rfl).slI (f := dcell) fun ps h => by
  obtain ⟨_, _, rfl, h0, h⟩ := h.cons
  obtain rfl := h.nil
  obtain ⟨n, rfl, hn⟩ := h0.intI
  simp only [Lit.wf, Bool.and_eq_true, decide_eq_true_eq] at hn
  have h1 : IntKind.u8.min = 0 := by decide
  have h2 : IntKind.u8.max = 255 := by decide
  refine ⟨UInt8.ofNat n.toNat, ?_⟩
  unfold dcell
  rw [UInt8.toNat_ofNat_of_lt' (by simp; omega), Int.toNat_of_nonneg (by omega)]
theorem int_open {p : PV} (hp : ShT Try.T 3 p) : ∃ n, p = I n := by
 obtain ⟨n, rfl, -⟩ := (hp.one (f := .int .i64) rfl rfl rfl).intI
 exact ⟨n, rfl⟩
end Go.Proofs.Ytleejpddecjhcaa
namespace Go.Proofs.Ytleejpddecjhcaa
set_option linter.unusedSimpArgs false
set_option linter.unusedVariables false
open Go Go.Av
attribute [local irreducible] Go.Av.CallK Go.Av.CallE Go.Av.CallQ Go.Av.CallF Go.Av.CallR Go.Av.CallH Go.Av.Con
abbrev wB (l : List UInt8) : List Blk := [.box 136 [.row 1025], .row 5 1 (by8 l)]
abbrev WCon (g : FuncId) (args : List V) (l m : List UInt8) : Prop := Con Try.prog g (.ptr 1024 0 :: args) (wB l) (.ret (.tup []) [] (wB m))
theorem wnumber_con (l : List UInt8) (n : Int) (ho : okI n) (h : l.length <= 1000000000) : WCon 85 [.p (I n)] l (l ++ enc (zz n)) := by
 have c := (putInt_con [] n ho (by simp)).toPure
 rw [List.nil_append] at c
 have hel := enc_len10 (zz_lt ho)
 have hx := by8_app l (enc (zz n))
 generalize enc (zz n) = z at c hel hx ⊢
 simp only [show by8 [] = [] from rfl] at c
 refine wBodyG Try.tab Try.mixed Try.func85 rfl rfl Try.ntmps85 (by simp) (by simp) fun Q hr hn hp => ?_
 repeat' first | (refine And.intro (by (try simp only [by8_len]); omega) ?_) | (refine hK _ ?_; clear hK) | (refine hK _ _ ?_; clear hK) | (clear hK; refine hK _ ?_; clear hK) | (clear hK; clear hK; refine hK _ ?_; clear hK) | (clear hK; clear hK; clear hK; refine hK _ ?_; clear hK) | (clear hK; clear hK; clear hK; clear hK; refine hK _ ?_; clear hK) | (refine wSeq fun K hK => ?_) | ((first | refine wReg ?_ | refine wDrwQ rfl (by kernel_rfl) ?_ | refine wDrwI ?_ | refine wDrw (by kernel_rfl) ?_); simp only [List.map_cons, List.map_nil, strip]) | ((first | refine wIs fun K hK => ?_ | refine wOs fun K hK => ?_ | refine wQs fun K hK => ?_ | refine CallK_plain ?_ | refine CallQ_plain ?_ | refine CallR_plain ?_ | refine wCond ?_); simp [hx]) | (refine wIn ?_; refine And.intro (by kernel_rfl) ?_; try simp only [thenA_n]) | (first | refine wBlock ?_ | refine wScope ?_) | ((first | refine wRet ?_ | refine wExit ?_ | refine wSkip ?_); try simp) | ((first | refine wLabel ?_ | refine wOn ?_ | refine wQn ?_); try simp only [thenA_n]) | (refine CallE.pure (c) rfl ?_) | (refine CallE.lent (c) rfl ?_) | (refine CallF.pure (c) rfl ?_) | (refine CallF.lent (c) rfl ?_) | (refine CallE.own (c) ?_) | (refine CallH.pure (c) rfl ?_) | (refine CallH.lent (c) rfl ?_) | (refine CallH.own (c) ?_)
 all_goals first | apply hn | apply hr
 all_goals refine ⟨[], by simp, by simp, ?_⟩
 all_goals simp [Try.f85, outR, outB, renB, gaN, hx]
def catI (l : List Int) : List UInt8 := l.flatMap fun n => enc (zz n)
theorem catI_snoc {l : List Int} {k : Nat} (h : k < l.length) : catI (l.take (k + 1)) = catI (l.take k) ++ enc (zz l[k]) := by
 rw [List.take_succ_eq_append_getElem h]; simp only [catI, List.flatMap_append, List.flatMap_cons, List.flatMap_nil, List.append_nil]
set_option maxHeartbeats 1000000 in
theorem wnumbers_con (b : List UInt8) (l : List Int) (ho : ∀ n ∈ l, okI n) (hl : l.length <= 1000000) (h : b.length <= 900000000) : WCon 78 [.p (.sl 1 (ints l))] b (b ++ catI l) := by
 refine wBodyG Try.tab Try.mixed Try.func78 rfl rfl Try.ntmps78 (by simp) (by simp) fun Q hr hn hp => ?_
 repeat' first | (refine hK _ ?_; clear hK) | (refine hK _ _ ?_; clear hK) | (clear hK; refine hK _ ?_; clear hK) | (clear hK; clear hK; refine hK _ ?_; clear hK) | (clear hK; clear hK; clear hK; refine hK _ ?_; clear hK) | (clear hK; clear hK; clear hK; clear hK; refine hK _ ?_; clear hK) | (refine wSeq fun K hK => ?_) | ((first | refine wReg ?_ | refine wDrwQ rfl (by kernel_rfl) ?_ | refine wDrwI ?_ | refine wDrw (by kernel_rfl) ?_); simp only [List.map_cons, List.map_nil, strip]) | ((first | refine wIs fun K hK => ?_ | refine wOs fun K hK => ?_ | refine wQs fun K hK => ?_ | refine CallK_plain ?_ | refine CallQ_plain ?_ | refine CallR_plain ?_ | refine wCond ?_); simp) | (refine wIn ?_; refine And.intro (by kernel_rfl) ?_; try simp only [thenA_n]) | (first | refine wBlock ?_ | refine wScope ?_) | ((first | refine wRet ?_ | refine wExit ?_ | refine wSkip ?_); try simp) | ((first | refine wLabel ?_ | refine wOn ?_ | refine wQn ?_); try simp only [thenA_n])
 refine wLoop (fun N st => ∃ k p, k + N = l.length /\ p = b ++ catI (l.take k) /\ p.length <= b.length + 10 * k /\ st.s 0 = .ptr 1024 0 /\ st.s 6 = .p (.sl 1 (ints l)) /\ st.s 7 = .p (I l.length) /\ st.s 8 = .p (I k) /\ st.b 1024 = some (.box 136 [.row 1025]) /\ st.b 1025 = some (.row 5 1 (by8 p))) l.length ⟨0, b, by simp [catI]⟩ fun K N st hL ⟨k, p, hk, hp, hpl, g0, g6, g7, g8, b0, b1⟩ => ?_
 by_cases hlt : k < l.length
 ·have hlt' : (k : Int) < l.length := by omega
  have hw := wrapS k _ hlt (by omega)
  have he := ints_get hlt
  have hq1 : (ints l)[k]'(by simpa using hlt) = [I l[k]] := by simp [ints]
  have hon := ho l[k] (List.getElem_mem hlt)
  have c := wnumber_con p l[k] hon (by omega)
  have hel := enc_len10 (zz_lt hon)
  have hsn := catI_snoc hlt
  have hpp : p ++ enc (zz l[k]) = b ++ catI (l.take (k + 1)) := by rw [hsn, hp, List.append_assoc]
  have hpl2 : (p ++ enc (zz l[k])).length <= b.length + 10 * (k + 1) := by rw [List.length_append]; omega
  generalize p ++ enc (zz l[k]) = p2 at c hpp hpl2
  generalize l[k] = n at he hq1 c
  repeat' first | (refine CallK_gen [1024, 1025] c (by decide) (by decide) (by simp [blksOf, inN, pos, renB, ren0, b0, b1]) (by simp [argsG, argG, ren0, inN, pos, renCs, renC]) ⟨[], by simp, by simp, ?_⟩; simp [lv, ouN, kpI, kpR, pos, ren, ren0, renB, renC, renCs, b0, b1]) | (refine hK _ ?_; clear hK) | (refine hK _ _ ?_; clear hK) | (clear hK; refine hK _ ?_; clear hK) | (clear hK; clear hK; refine hK _ ?_; clear hK) | (clear hK; clear hK; clear hK; refine hK _ ?_; clear hK) | (clear hK; clear hK; clear hK; clear hK; refine hK _ ?_; clear hK) | (refine wSeq fun K hK => ?_) | ((first | refine wReg ?_ | refine wDrwQ rfl (by kernel_rfl) ?_ | refine wDrwI ?_ | refine wDrw (by kernel_rfl) ?_); simp only [List.map_cons, List.map_nil, strip]) | ((first | refine wIs fun K hK => ?_ | refine wOs fun K hK => ?_ | refine wQs fun K hK => ?_ | refine CallK_plain ?_ | refine CallQ_plain ?_ | refine CallR_plain ?_ | refine wCond ?_); simp [g0, g6, g7, g8, b0, b1, hlt, hlt', hw, he, hq1]) | (refine wIn ?_; refine And.intro (by kernel_rfl) ?_; try simp only [thenA_n]) | (first | refine wBlock ?_ | refine wScope ?_) | ((first | refine wRet ?_ | refine wExit ?_ | refine wSkip ?_); try simp) | ((first | refine wLabel ?_ | refine wOn ?_ | refine wQn ?_); try simp only [thenA_n])
  refine hL _ (N - 1) (by omega) ⟨k + 1, p2, by omega, hpp, hpl2, ?_⟩
  simp [g0, g6, g7, g8, b0, b1, hw, lv, ouN, kpI, kpR, pos, ren, ren0, renB, renC, renCs]
 ·have hlt' : ¬ (k : Int) < l.length := by omega
  rw [List.take_of_length_le (by omega)] at hp
  subst hp
  repeat' first | (refine hK _ ?_; clear hK) | (refine hK _ _ ?_; clear hK) | (clear hK; refine hK _ ?_; clear hK) | (clear hK; clear hK; refine hK _ ?_; clear hK) | (clear hK; clear hK; clear hK; refine hK _ ?_; clear hK) | (clear hK; clear hK; clear hK; clear hK; refine hK _ ?_; clear hK) | (refine wSeq fun K hK => ?_) | ((first | refine wReg ?_ | refine wDrwQ rfl (by kernel_rfl) ?_ | refine wDrwI ?_ | refine wDrw (by kernel_rfl) ?_); simp only [List.map_cons, List.map_nil, strip]) | ((first | refine wIs fun K hK => ?_ | refine wOs fun K hK => ?_ | refine wQs fun K hK => ?_ | refine CallK_plain ?_ | refine CallQ_plain ?_ | refine CallR_plain ?_ | refine wCond ?_); simp [g0, g6, g7, g8, b0, b1, hlt, hlt']) | (refine wIn ?_; refine And.intro (by kernel_rfl) ?_; try simp only [thenA_n]) | (first | refine wBlock ?_ | refine wScope ?_) | ((first | refine wRet ?_ | refine wExit ?_ | refine wSkip ?_); try simp) | ((first | refine wLabel ?_ | refine wOn ?_ | refine wQn ?_); try simp only [thenA_n])
  all_goals first | apply hn | apply hr
  all_goals refine ⟨[], by simp, by simp, ?_⟩
  all_goals simp [Try.f78, outR, outB, renB, gaN, b0, b1]
end Go.Proofs.Ytleejpddecjhcaa
namespace Go.Proofs.Ytleejpddecjhcaa
set_option linter.unusedSimpArgs false
set_option linter.unusedVariables false
set_option maxRecDepth 8000
open Go Go.Av
attribute [local irreducible] Go.Av.CallK Go.Av.CallE Go.Av.CallQ Go.Av.CallF Go.Av.CallR Go.Av.CallH Go.Av.Con
theorem catI2 (a b : Int) : catI [a, b] = foI.en [I a] ++ foI.en [I b] := by simp [catI]
theorem catI3 (a b c : Int) : catI [a, b, c] = foI.en [I a] ++ (foI.en [I b] ++ foI.en [I c]) := by simp [catI]
theorem catI4 (a b c d : Int) : catI [a, b, c, d] = foI.en [I a] ++ (foI.en [I b] ++ (foI.en [I c] ++ foI.en [I d])) := by simp [catI]
theorem wnumF (b : List UInt8) (n : Int) (ho : foI.ok [I n]) (h : (b ++ foI.en [I n]).length <= 30000000) : WCon 85 [.p (I n)] b (b ++ foI.en [I n]) :=
 wnumber_con b n (foI_ok.1 ho) (by rw [List.length_append] at h; omega)
theorem wnumsF (b : List UInt8) (l : List Int) (ho : ∀ n ∈ l, okI n) (hl : l.length <= 1000) (h : (b ++ catI l).length <= 30000000) : WCon 78 [.p (.sl 1 (ints l))] b (b ++ catI l) :=
 wnumbers_con b l ho (by omega) (by rw [List.length_append] at h; omega)
set_option maxHeartbeats 2000000 in
theorem wZx (b : List UInt8) (cs : List PV) (hk : fZx.ok cs) (h : (b ++ fZx.en cs).length <= 30000000) : WCon 52 [vOf cs] b (b ++ fZx.en cs) := by
 obtain ⟨x0, x1, rfl, k0, k1⟩ := fZx_sh hk
 have hres : b ++ fZx.en [I x0, I x1] = b ++ catI [x0, x1] := by rw [fZx_en]; simp only [catI2, catI3, catI4, List.append_assoc]
 rw [hres] at h ⊢
 clear hres
 have c0 := wnumsF b [x0, x1] (by intro n hn; simp at hn; rcases hn with rfl | rfl <;> simp only [<- foI_ok] <;> assumption) (by simp) h
 generalize b ++ catI [x0, x1] = y1 at *
 simp only [vOf2, ints, List.map_cons, List.map_nil] at *
 refine wBodyG Try.tab Try.mixed Try.func52 rfl rfl Try.ntmps52 (by simp) (by simp) fun Q hr hn hp => ?_
 repeat' first | (refine CallK_gen [1024, 1025] c0 (by decide) (by decide) (by simp [blksOf, inN, pos, renB, ren0, ouN, lv, kpI, kpR]) (by simp [argsG, argG, ren0, inN, pos, renCs, renC]) ⟨[], by simp, by simp, ?_⟩; simp [lv, ouN, kpI, kpR, pos, ren, ren0, renB, renC, renCs]; clear c0) | (refine hK _ ?_; clear hK) | (refine hK _ _ ?_; clear hK) | (clear hK; refine hK _ ?_; clear hK) | (clear hK; clear hK; refine hK _ ?_; clear hK) | (clear hK; clear hK; clear hK; refine hK _ ?_; clear hK) | (clear hK; clear hK; clear hK; clear hK; refine hK _ ?_; clear hK) | (refine wSeq fun K hK => ?_) | ((first | refine wReg ?_ | refine wDrwQ rfl (by kernel_rfl) ?_ | refine wDrwI ?_ | refine wDrw (by kernel_rfl) ?_); simp only [List.map_cons, List.map_nil, strip]) | ((first | refine wIs fun K hK => ?_ | refine wOs fun K hK => ?_ | refine wQs fun K hK => ?_ | refine CallK_plain ?_ | refine CallQ_plain ?_ | refine CallR_plain ?_ | refine wCond ?_); simp [lv, ouN, kpI, kpR, pos, ren, ren0, renB, renC, renCs]) | (refine wIn ?_; refine And.intro (by kernel_rfl) ?_; try simp only [thenA_n]) | (first | refine wBlock ?_ | refine wScope ?_) | ((first | refine wRet ?_ | refine wExit ?_ | refine wSkip ?_); try simp) | ((first | refine wLabel ?_ | refine wOn ?_ | refine wQn ?_); try simp only [thenA_n])
 all_goals first | apply hn | apply hr
 all_goals refine ⟨[], by simp, by simp, ?_⟩
 all_goals simp [Try.f52, outR, outB, renB, gaN, lv, ouN, kpI, kpR, pos, ren, ren0, renC, renCs]
set_option maxHeartbeats 2000000 in
theorem wMb (b : List UInt8) (cs : List PV) (hk : fMb.ok cs) (h : (b ++ fMb.en cs).length <= 30000000) : WCon 87 [vOf cs] b (b ++ fMb.en cs) := by
 obtain ⟨x0, x1, x2, x3, rfl, k0, k1, k2, k3⟩ := fMb_sh hk
 have hres : b ++ fMb.en [I x0, I x1, I x2, I x3] = b ++ catI [x0, x1, x2, x3] := by rw [fMb_en]; simp only [catI2, catI3, catI4, List.append_assoc]
 rw [hres] at h ⊢
 clear hres
 have c0 := wnumsF b [x0, x1, x2, x3] (by intro n hn; simp at hn; rcases hn with rfl | rfl | rfl | rfl <;> simp only [<- foI_ok] <;> assumption) (by simp) h
 generalize b ++ catI [x0, x1, x2, x3] = y1 at *
 simp only [vOf2, ints, List.map_cons, List.map_nil] at *
 refine wBodyG Try.tab Try.mixed Try.func87 rfl rfl Try.ntmps87 (by simp) (by simp) fun Q hr hn hp => ?_
 repeat' first | (refine CallK_gen [1024, 1025] c0 (by decide) (by decide) (by simp [blksOf, inN, pos, renB, ren0, ouN, lv, kpI, kpR]) (by simp [argsG, argG, ren0, inN, pos, renCs, renC]) ⟨[], by simp, by simp, ?_⟩; simp [lv, ouN, kpI, kpR, pos, ren, ren0, renB, renC, renCs]; clear c0) | (refine hK _ ?_; clear hK) | (refine hK _ _ ?_; clear hK) | (clear hK; refine hK _ ?_; clear hK) | (clear hK; clear hK; refine hK _ ?_; clear hK) | (clear hK; clear hK; clear hK; refine hK _ ?_; clear hK) | (clear hK; clear hK; clear hK; clear hK; refine hK _ ?_; clear hK) | (refine wSeq fun K hK => ?_) | ((first | refine wReg ?_ | refine wDrwQ rfl (by kernel_rfl) ?_ | refine wDrwI ?_ | refine wDrw (by kernel_rfl) ?_); simp only [List.map_cons, List.map_nil, strip]) | ((first | refine wIs fun K hK => ?_ | refine wOs fun K hK => ?_ | refine wQs fun K hK => ?_ | refine CallK_plain ?_ | refine CallQ_plain ?_ | refine CallR_plain ?_ | refine wCond ?_); simp [lv, ouN, kpI, kpR, pos, ren, ren0, renB, renC, renCs]) | (refine wIn ?_; refine And.intro (by kernel_rfl) ?_; try simp only [thenA_n]) | (first | refine wBlock ?_ | refine wScope ?_) | ((first | refine wRet ?_ | refine wExit ?_ | refine wSkip ?_); try simp) | ((first | refine wLabel ?_ | refine wOn ?_ | refine wQn ?_); try simp only [thenA_n])
 all_goals first | apply hn | apply hr
 all_goals refine ⟨[], by simp, by simp, ?_⟩
 all_goals simp [Try.f87, outR, outB, renB, gaN, lv, ouN, kpI, kpR, pos, ren, ren0, renC, renCs]
set_option maxHeartbeats 2000000 in
theorem wlMb (b : List UInt8) (rows : List (List PV)) (hk : (fl 4 fMb).ok [.sl 4 rows]) (h : (b ++ (fl 4 fMb).en [.sl 4 rows]).length <= 30000000) : WCon 86 [.p (.sl 4 rows), .p (.v (.func (.func 87) #[] #[]))] b (b ++ (fl 4 fMb).en [.sl 4 rows]) := by
 obtain ⟨hl, ho⟩ := fl_ok hk
 rw [fl_en, <- List.append_assoc] at h ⊢
 have hL : okI (rows.length : Int) := ⟨by omega, by omega⟩
 have c0 := wnumF b rows.length (foI_ok.2 hL) (by rw [foI_en]; simp only [List.length_append] at h ⊢; omega)
 rw [foI_en] at c0
 generalize b ++ enc (zz (rows.length : Int)) = b2 at *
 refine wBodyG Try.tab Try.mixed Try.func86 rfl rfl Try.ntmps86 (by simp) (by simp) fun Q hr hn hp => ?_
 repeat' first | (refine CallK_gen [1024, 1025] c0 (by decide) (by decide) (by simp [blksOf, inN, pos, renB, ren0, ouN, lv, kpI, kpR]) (by simp [argsG, argG, ren0, inN, pos, renCs, renC]) ⟨[], by simp, by simp, ?_⟩; simp [lv, ouN, kpI, kpR, pos, ren, ren0, renB, renC, renCs]; clear c0) | (refine hK _ ?_; clear hK) | (refine hK _ _ ?_; clear hK) | (clear hK; refine hK _ ?_; clear hK) | (clear hK; clear hK; refine hK _ ?_; clear hK) | (clear hK; clear hK; clear hK; refine hK _ ?_; clear hK) | (clear hK; clear hK; clear hK; clear hK; refine hK _ ?_; clear hK) | (refine wSeq fun K hK => ?_) | ((first | refine wReg ?_ | refine wDrwQ rfl (by kernel_rfl) ?_ | refine wDrwI ?_ | refine wDrw (by kernel_rfl) ?_); simp only [List.map_cons, List.map_nil, strip]) | ((first | refine wIs fun K hK => ?_ | refine wOs fun K hK => ?_ | refine wQs fun K hK => ?_ | refine CallK_plain ?_ | refine CallQ_plain ?_ | refine CallR_plain ?_ | refine wCond ?_); simp [lv, ouN, kpI, kpR, pos, ren, ren0, renB, renC, renCs]) | (refine wIn ?_; refine And.intro (by kernel_rfl) ?_; try simp only [thenA_n]) | (first | refine wBlock ?_ | refine wScope ?_) | ((first | refine wRet ?_ | refine wExit ?_ | refine wSkip ?_); try simp) | ((first | refine wLabel ?_ | refine wOn ?_ | refine wQn ?_); try simp only [thenA_n])
 refine wLoop (fun N st => ∃ k p, k + N = rows.length /\ p = b2 ++ (rows.take k).flatMap fMb.en /\ st.s 0 = .ptr 1024 0 /\ st.s 2 = .p (.v (.func (.func 87) #[] #[])) /\ st.s 12 = .p (.sl 4 rows) /\ st.s 13 = .p (I rows.length) /\ st.s 14 = .p (I k) /\ st.b 1024 = some (.box 136 [.row 1025]) /\ st.b 1025 = some (.row 5 1 (by8 p))) rows.length ⟨0, b2, by simp [lv, ouN, kpI, kpR, pos, ren, ren0, renB, renC, renCs]⟩ fun K N st hL ⟨k, p, hk, hp, g0, g2, g12, g13, g14, b0, b1⟩ => ?_
 by_cases hlt : k < rows.length
 ·have hlt' : (k : Int) < rows.length := by omega
  have hw := wrapS k _ hlt (by omega)
  have hok := ho rows[k] (List.getElem_mem hlt)
  have hpp : p ++ fMb.en rows[k] = b2 ++ (rows.take (k + 1)).flatMap fMb.en := by rw [flatMap_snoc hlt, hp, List.append_assoc]
  have hpl2 : (p ++ fMb.en rows[k]).length <= 30000000 := by rw [hpp]; have := flatMap_take_le fMb.en rows (k + 1); simp only [List.length_append] at h ⊢; omega
  have he : rows[k]? = some rows[k] := List.getElem?_eq_getElem hlt
  generalize hQ : rows[k] = r at *
  obtain ⟨x0, x1, x2, x3, rfl, -⟩ := fMb_sh hok
  have c := wMb p _ hok hpl2
  generalize p ++ fMb.en [I x0, I x1, I x2, I x3] = p2 at c hpp hpl2
  try simp only [vOf1, vOf2] at c
  repeat' first | (refine CallK_gen [1024, 1025] c (by decide) (by decide) (by simp [blksOf, inN, pos, renB, ren0, ouN, lv, kpI, kpR, b0, b1]) (by simp [argsG, argG, ren0, inN, pos, renCs, renC]) ⟨[], by simp, by simp, ?_⟩; simp [lv, ouN, kpI, kpR, pos, ren, ren0, renB, renC, renCs, b0, b1]) | (refine hK _ ?_; clear hK) | (refine hK _ _ ?_; clear hK) | (clear hK; refine hK _ ?_; clear hK) | (clear hK; clear hK; refine hK _ ?_; clear hK) | (clear hK; clear hK; clear hK; refine hK _ ?_; clear hK) | (clear hK; clear hK; clear hK; clear hK; refine hK _ ?_; clear hK) | (refine wSeq fun K hK => ?_) | ((first | refine wReg ?_ | refine wDrwQ rfl (by kernel_rfl) ?_ | refine wDrwI ?_ | refine wDrw (by kernel_rfl) ?_); simp only [List.map_cons, List.map_nil, strip]) | ((first | refine wIs fun K hK => ?_ | refine wOs fun K hK => ?_ | refine wQs fun K hK => ?_ | refine CallK_plain ?_ | refine CallQ_plain ?_ | refine CallR_plain ?_ | refine wCond ?_); simp [g0, g2, g12, g13, g14, b0, b1, hlt, hlt', hw, he, hQ]) | (refine wIn ?_; refine And.intro (by kernel_rfl) ?_; try simp only [thenA_n]) | (first | refine wBlock ?_ | refine wScope ?_) | ((first | refine wRet ?_ | refine wExit ?_ | refine wSkip ?_); try simp) | ((first | refine wLabel ?_ | refine wOn ?_ | refine wQn ?_); try simp only [thenA_n])
  refine hL _ (N - 1) (by omega) ⟨k + 1, p2, by omega, hpp, ?_⟩
  simp [g0, g2, g12, g13, g14, b0, b1, hw, lv, ouN, kpI, kpR, pos, ren, ren0, renB, renC, renCs]
 ·have hlt' : ¬ (k : Int) < rows.length := by omega
  rw [List.take_of_length_le (by omega)] at hp
  subst hp
  repeat' first | (refine hK _ ?_; clear hK) | (refine hK _ _ ?_; clear hK) | (clear hK; refine hK _ ?_; clear hK) | (clear hK; clear hK; refine hK _ ?_; clear hK) | (clear hK; clear hK; clear hK; refine hK _ ?_; clear hK) | (clear hK; clear hK; clear hK; clear hK; refine hK _ ?_; clear hK) | (refine wSeq fun K hK => ?_) | ((first | refine wReg ?_ | refine wDrwQ rfl (by kernel_rfl) ?_ | refine wDrwI ?_ | refine wDrw (by kernel_rfl) ?_); simp only [List.map_cons, List.map_nil, strip]) | ((first | refine wIs fun K hK => ?_ | refine wOs fun K hK => ?_ | refine wQs fun K hK => ?_ | refine CallK_plain ?_ | refine CallQ_plain ?_ | refine CallR_plain ?_ | refine wCond ?_); simp [g0, g2, g12, g13, g14, b0, b1, hlt, hlt']) | (refine wIn ?_; refine And.intro (by kernel_rfl) ?_; try simp only [thenA_n]) | (first | refine wBlock ?_ | refine wScope ?_) | ((first | refine wRet ?_ | refine wExit ?_ | refine wSkip ?_); try simp) | ((first | refine wLabel ?_ | refine wOn ?_ | refine wQn ?_); try simp only [thenA_n])
  all_goals first | apply hn | apply hr
  all_goals refine ⟨[], by simp, by simp, ?_⟩
  all_goals simp [Try.f86, outR, outB, renB, gaN, b0, b1]
set_option maxHeartbeats 2000000 in
theorem wCf (b : List UInt8) (cs : List PV) (hk : fCf.ok cs) (h : (b ++ fCf.en cs).length <= 30000000) : WCon 49 [vOf cs] b (b ++ fCf.en cs) := by
 obtain ⟨x0, x1, x2, x3, rfl, k0, k1, k2⟩ := fCf_sh hk
 have hres : b ++ fCf.en [I x0, I x1, I x2, .sl 4 x3] = b ++ fZx.en [I x0, I x1] ++ foI.en [I x2] ++ (fl 4 fMb).en [.sl 4 x3] := by rw [fCf_en]; simp only [catI2, catI3, catI4, List.append_assoc]
 rw [hres] at h ⊢
 clear hres
 have c0 := wZx b _ k0 (by simp only [List.length_append] at h ⊢; omega)
 have c1 := wnumF (b ++ fZx.en [I x0, I x1]) x2 k1 (by simp only [List.length_append] at h ⊢; omega)
 have c2 := wlMb (b ++ fZx.en [I x0, I x1] ++ foI.en [I x2]) x3 k2 h
 generalize b ++ fZx.en [I x0, I x1] ++ foI.en [I x2] ++ (fl 4 fMb).en [.sl 4 x3] = y3 at *
 generalize b ++ fZx.en [I x0, I x1] ++ foI.en [I x2] = y2 at *
 generalize b ++ fZx.en [I x0, I x1] = y1 at *
 simp only [vOf2, ints, List.map_cons, List.map_nil] at *
 refine wBodyG Try.tab Try.mixed Try.func49 rfl rfl Try.ntmps49 (by simp) (by simp) fun Q hr hn hp => ?_
 repeat' first | (refine CallK_gen [1024, 1025] c0 (by decide) (by decide) (by simp [blksOf, inN, pos, renB, ren0, ouN, lv, kpI, kpR]) (by simp [argsG, argG, ren0, inN, pos, renCs, renC]) ⟨[], by simp, by simp, ?_⟩; simp [lv, ouN, kpI, kpR, pos, ren, ren0, renB, renC, renCs]; clear c0) | (refine CallK_gen [1024, 1025] c1 (by decide) (by decide) (by simp [blksOf, inN, pos, renB, ren0, ouN, lv, kpI, kpR]) (by simp [argsG, argG, ren0, inN, pos, renCs, renC]) ⟨[], by simp, by simp, ?_⟩; simp [lv, ouN, kpI, kpR, pos, ren, ren0, renB, renC, renCs]; clear c1) | (refine CallK_gen [1024, 1025] c2 (by decide) (by decide) (by simp [blksOf, inN, pos, renB, ren0, ouN, lv, kpI, kpR]) (by simp [argsG, argG, ren0, inN, pos, renCs, renC]) ⟨[], by simp, by simp, ?_⟩; simp [lv, ouN, kpI, kpR, pos, ren, ren0, renB, renC, renCs]; clear c2) | (refine hK _ ?_; clear hK) | (refine hK _ _ ?_; clear hK) | (clear hK; refine hK _ ?_; clear hK) | (clear hK; clear hK; refine hK _ ?_; clear hK) | (clear hK; clear hK; clear hK; refine hK _ ?_; clear hK) | (clear hK; clear hK; clear hK; clear hK; refine hK _ ?_; clear hK) | (refine wSeq fun K hK => ?_) | ((first | refine wReg ?_ | refine wDrwQ rfl (by kernel_rfl) ?_ | refine wDrwI ?_ | refine wDrw (by kernel_rfl) ?_); simp only [List.map_cons, List.map_nil, strip]) | ((first | refine wIs fun K hK => ?_ | refine wOs fun K hK => ?_ | refine wQs fun K hK => ?_ | refine CallK_plain ?_ | refine CallQ_plain ?_ | refine CallR_plain ?_ | refine wCond ?_); simp [lv, ouN, kpI, kpR, pos, ren, ren0, renB, renC, renCs]) | (refine wIn ?_; refine And.intro (by kernel_rfl) ?_; try simp only [thenA_n]) | (first | refine wBlock ?_ | refine wScope ?_) | ((first | refine wRet ?_ | refine wExit ?_ | refine wSkip ?_); try simp) | ((first | refine wLabel ?_ | refine wOn ?_ | refine wQn ?_); try simp only [thenA_n])
 all_goals first | apply hn | apply hr
 all_goals refine ⟨[], by simp, by simp, ?_⟩
 all_goals simp [Try.f49, outR, outB, renB, gaN, lv, ouN, kpI, kpR, pos, ren, ren0, renC, renCs]
abbrev RConX (g : FuncId) (args : List V) (e c : Nat) (l : List (List PV)) : Prop := Con Try.prog g args [] (.ret (.row 2048) [.row e c l] [])
theorem cloneB (l : List (List PV)) (hl : l.length <= 1000000) : RConX 77 [.p (.sl 1 l)] 5 1 l := by
 refine wBodyR Try.tab Try.mixed Try.func77 rfl rfl Try.ntmps77 rfl (by simp) (by simp) fun Q hr hn => ?_
 repeat' first | (refine wRetG [.row 2 5 1] ?_) | (refine And.intro (by omega) (Or.inl ?_)) | (refine And.intro ?_ (fun hnil => ?_)) | (refine hK _ ?_; clear hK) | (refine hK _ _ ?_; clear hK) | (clear hK; refine hK _ ?_; clear hK) | (clear hK; clear hK; refine hK _ ?_; clear hK) | (clear hK; clear hK; clear hK; refine hK _ ?_; clear hK) | (clear hK; clear hK; clear hK; clear hK; refine hK _ ?_; clear hK) | (refine wSeq fun K hK => ?_) | ((first | refine wReg ?_ | refine wDrwQ rfl (by kernel_rfl) ?_ | refine wDrwI ?_ | refine wDrw (by kernel_rfl) ?_); simp only [List.map_cons, List.map_nil, strip]) | ((first | refine wIs fun K hK => ?_ | refine wOs fun K hK => ?_ | refine wQs fun K hK => ?_ | refine CallK_plain ?_ | refine CallQ_plain ?_ | refine CallR_plain ?_ | refine wCond ?_); simp) | (refine wIn ?_; refine And.intro (by kernel_rfl) ?_; try simp only [thenA_n]) | (first | refine wBlock ?_ | refine wScope ?_) | ((first | refine wRet ?_ | refine wExit ?_ | refine wSkip ?_); try simp) | ((first | refine wLabel ?_ | refine wOn ?_ | refine wQn ?_); try simp only [thenA_n])
 ·refine hr _ 7 (by simp) (by simp) (by omega)
 ·subst hnil
  simp only [thenA_r]
  refine hr _ 2 (by simp) (by simp) (by omega)
set_option maxHeartbeats 4000000 in
theorem putCf (b : List UInt8) (cs : List PV) (hk : fCf.ok cs) (h : (b ++ fCf.en cs).length <= 1000000) : ACon Try.prog 16 [.p (.sl 1 (by8 b)), vOf cs] (.p (.sl 1 (by8 (b ++ fCf.en cs)))) := by
 have c := wCf b cs hk (by omega)
 have cl := cloneB (by8 b) (by rw [by8_len]; rw [List.length_append] at h; omega)
 obtain ⟨x0, x1, x2, x3, rfl, -⟩ := fCf_sh hk
 generalize b ++ fCf.en [I x0, I x1, I x2, .sl 4 x3] = r at *
 simp only [vOf2] at *
 have hI : Con Try.prog 48 [.p (.sl 1 (by8 b)), .p (.agg [I x0, I x1, I x2, .sl 4 x3]), .p (.v (.func (.func 49) #[] #[]))] [] (.ret (.row 2048) [.row 5 1 (by8 r)] []) := by
  refine wBodyG Try.tab Try.mixed Try.func48 rfl rfl Try.ntmps48 (by simp) (by simp) fun Q hr hn hp => ?_
  repeat' first | (refine CallK_gen [11, 9] (c) (by decide) (by decide) (by simp [blksOf, inN, pos, renB, renC, renCs, ren0, lv, ouN, kpI, kpR]) (by simp [argsG, argG, ren0, inN, pos, renCs, renC]) ⟨[], by simp, by simp, ?_⟩; simp [lv, ouN, kpI, kpR, pos, ren, ren0, renB, renC, renCs, renF, renFs]) | (refine CallE.own (cl) ?_) | (refine hK _ ?_; clear hK) | (refine hK _ _ ?_; clear hK) | (clear hK; refine hK _ ?_; clear hK) | (clear hK; clear hK; refine hK _ ?_; clear hK) | (clear hK; clear hK; clear hK; refine hK _ ?_; clear hK) | (clear hK; clear hK; clear hK; clear hK; refine hK _ ?_; clear hK) | (refine wSeq fun K hK => ?_) | ((first | refine wReg ?_ | refine wDrwQ rfl (by kernel_rfl) ?_ | refine wDrwI ?_ | refine wDrw (by kernel_rfl) ?_); simp only [List.map_cons, List.map_nil, strip]) | ((first | refine wIs fun K hK => ?_ | refine wOs fun K hK => ?_ | refine wQs fun K hK => ?_ | refine CallK_plain ?_ | refine CallQ_plain ?_ | refine CallR_plain ?_ | refine wCond ?_); simp [lv, ouN, kpI, kpR, pos, ren, ren0, renB, renC, renCs]) | (refine wIn ?_; refine And.intro (by kernel_rfl) ?_; try simp only [thenA_n]) | (first | refine wBlock ?_ | refine wScope ?_) | ((first | refine wRet ?_ | refine wExit ?_ | refine wSkip ?_); try simp) | ((first | refine wLabel ?_ | refine wOn ?_ | refine wQn ?_); try simp only [thenA_n])
  all_goals first | apply hr
  all_goals refine ⟨[9], by simp, by simp, ?_⟩
  all_goals simp [Try.f48, outR, outB, renB, gaN, lv, ouN, kpI, kpR, pos, ren, ren0, renC, renCs]
 have hc := hI.toPure
 refine wBody Try.tab Try.mixed Try.func16 rfl rfl Try.ntmps16 (by simp) (by simp) fun Q hr hn => ?_
 repeat' first | (refine hK _ ?_; clear hK) | (refine hK _ _ ?_; clear hK) | (clear hK; refine hK _ ?_; clear hK) | (clear hK; clear hK; refine hK _ ?_; clear hK) | (clear hK; clear hK; clear hK; refine hK _ ?_; clear hK) | (clear hK; clear hK; clear hK; clear hK; refine hK _ ?_; clear hK) | (refine wSeq fun K hK => ?_) | ((first | refine wReg ?_ | refine wDrwQ rfl (by kernel_rfl) ?_ | refine wDrwI ?_ | refine wDrw (by kernel_rfl) ?_); simp only [List.map_cons, List.map_nil, strip]) | ((first | refine wIs fun K hK => ?_ | refine wOs fun K hK => ?_ | refine wQs fun K hK => ?_ | refine CallK_plain ?_ | refine CallQ_plain ?_ | refine CallR_plain ?_ | refine wCond ?_); simp) | (refine wIn ?_; refine And.intro (by kernel_rfl) ?_; try simp only [thenA_n]) | (first | refine wBlock ?_ | refine wScope ?_) | ((first | refine wRet ?_ | refine wExit ?_ | refine wSkip ?_); try simp) | ((first | refine wLabel ?_ | refine wOn ?_ | refine wQn ?_); try simp only [thenA_n]) | (refine CallE.pure (hc) rfl ?_) | (refine CallE.lent (hc) rfl ?_) | (refine CallF.pure (hc) rfl ?_) | (refine CallF.lent (hc) rfl ?_) | (refine CallE.own (hc) ?_) | (refine CallH.pure (hc) rfl ?_) | (refine CallH.lent (hc) rfl ?_) | (refine CallH.own (hc) ?_)
 all_goals apply hr
 all_goals simp [Try.f16]
theorem give0_con : ACon Try.prog 130 [.p (I 0)] (.tup []) := by
 refine wBody Try.tab Try.mixed Try.func130 rfl rfl Try.ntmps130 (by simp) (by simp) fun Q hr hn => ?_
 repeat' first | (refine hK _ ?_; clear hK) | (refine hK _ _ ?_; clear hK) | (clear hK; refine hK _ ?_; clear hK) | (clear hK; clear hK; refine hK _ ?_; clear hK) | (clear hK; clear hK; clear hK; refine hK _ ?_; clear hK) | (clear hK; clear hK; clear hK; clear hK; refine hK _ ?_; clear hK) | (refine wSeq fun K hK => ?_) | ((first | refine wReg ?_ | refine wDrwQ rfl (by kernel_rfl) ?_ | refine wDrwI ?_ | refine wDrw (by kernel_rfl) ?_); simp only [List.map_cons, List.map_nil, strip]) | ((first | refine wIs fun K hK => ?_ | refine wOs fun K hK => ?_ | refine wQs fun K hK => ?_ | refine CallK_plain ?_ | refine CallQ_plain ?_ | refine CallR_plain ?_ | refine wCond ?_); simp) | (refine wIn ?_; refine And.intro (by kernel_rfl) ?_; try simp only [thenA_n]) | (first | refine wBlock ?_ | refine wScope ?_) | ((first | refine wRet ?_ | refine wExit ?_ | refine wSkip ?_); try simp) | ((first | refine wLabel ?_ | refine wOn ?_ | refine wQn ?_); try simp only [thenA_n])
 all_goals first | apply hn | apply hr
 all_goals simp [Try.f130]
abbrev rB (b : List UInt8) (a : Int) : List Blk := [.box 160 [.p (.sl 1 (by8 b)), .p (I a)]]
def rO (b : List UInt8) (v : V) (st : RS) : Out := if st.1 = 0 then .ret v [] (rB b st.2) else .pan (.iface 192 (.int .i64 st.1)) (rB b st.2)
theorem rO_ok (b : List UInt8) (v : V) (a : Int) : rO b v (0, a) = .ret v [] (rB b a) := rfl
theorem rO_err (b : List UInt8) (v : V) {e : Int} (a : Int) (h : ¬ e = 0) : rO b v (e, a) = .pan (.iface 192 (.int .i64 e)) (rB b a) := by unfold rO; rw [if_neg h]
abbrev RCn (g : FuncId) (f : Fo) : Prop := ∀ (b : List UInt8) (a : Int), b.length <= 1000000000 -> Con Try.prog g [.ptr 1024 0] (rB b a) (rO b (vOf (f.rd b (0, a)).1) (f.rd b (0, a)).2)
theorem rnum : RCn 96 foI := by
 intro b a hb
 show Con _ _ _ _ (rO b (.p (I (rdN b (0, a)).1)) (rdN b (0, a)).2)
 have c := int_con b a hb
 rw [intT_eq] at c
 unfold rdN
 rw [if_pos rfl]
 simp only
 generalize intP b a = r at *
 obtain ⟨n, k, e⟩ := r
 simp only at c ⊢
 have c0 := give0_con
 by_cases h : e = 0
 ·subst h
  rw [if_pos rfl, rO_ok]
  refine wBodyG Try.tab Try.mixed Try.func96 rfl rfl Try.ntmps96 (by simp) (by simp) fun Q hr hn hp => ?_
  repeat' first | (refine hK _ ?_; clear hK) | (refine hK _ _ ?_; clear hK) | (clear hK; refine hK _ ?_; clear hK) | (clear hK; clear hK; refine hK _ ?_; clear hK) | (clear hK; clear hK; clear hK; refine hK _ ?_; clear hK) | (clear hK; clear hK; clear hK; clear hK; refine hK _ ?_; clear hK) | (refine wSeq fun K hK => ?_) | ((first | refine wReg ?_ | refine wDrwQ rfl (by kernel_rfl) ?_ | refine wDrwI ?_ | refine wDrw (by kernel_rfl) ?_); simp only [List.map_cons, List.map_nil, strip]) | ((first | refine wIs fun K hK => ?_ | refine wOs fun K hK => ?_ | refine wQs fun K hK => ?_ | refine CallK_plain ?_ | refine CallQ_plain ?_ | refine CallR_plain ?_ | refine wCond ?_); simp) | (refine wIn ?_; refine And.intro (by kernel_rfl) ?_; try simp only [thenA_n]) | (first | refine wBlock ?_ | refine wScope ?_) | ((first | refine wRet ?_ | refine wExit ?_ | refine wSkip ?_); try simp) | ((first | refine wLabel ?_ | refine wOn ?_ | refine wQn ?_); try simp only [thenA_n]) | (refine CallE.pure (c) rfl ?_) | (refine CallE.lent (c) rfl ?_) | (refine CallF.pure (c) rfl ?_) | (refine CallF.lent (c) rfl ?_) | (refine CallE.own (c) ?_) | (refine CallH.pure (c) rfl ?_) | (refine CallH.lent (c) rfl ?_) | (refine CallH.own (c) ?_) | (refine CallE.pure (c0) rfl ?_) | (refine CallE.lent (c0) rfl ?_) | (refine CallF.pure (c0) rfl ?_) | (refine CallF.lent (c0) rfl ?_) | (refine CallE.own (c0) ?_) | (refine CallH.pure (c0) rfl ?_) | (refine CallH.lent (c0) rfl ?_) | (refine CallH.own (c0) ?_)
  all_goals first | apply hr
  all_goals refine ⟨[], by simp, by simp, ?_⟩
  all_goals simp [Try.f96, outR, outB, renB, gaN]
 ·rw [if_neg h, rO_err _ _ _ h]
  have c1 := give_con e h
  refine wBodyG Try.tab Try.mixed Try.func96 rfl rfl Try.ntmps96 (by simp) (by simp) fun Q hr hn hp => ?_
  repeat' first | (refine CallE.pan c1 ?_) | (refine hK _ ?_; clear hK) | (refine hK _ _ ?_; clear hK) | (clear hK; refine hK _ ?_; clear hK) | (clear hK; clear hK; refine hK _ ?_; clear hK) | (clear hK; clear hK; clear hK; refine hK _ ?_; clear hK) | (clear hK; clear hK; clear hK; clear hK; refine hK _ ?_; clear hK) | (refine wSeq fun K hK => ?_) | ((first | refine wReg ?_ | refine wDrwQ rfl (by kernel_rfl) ?_ | refine wDrwI ?_ | refine wDrw (by kernel_rfl) ?_); simp only [List.map_cons, List.map_nil, strip]) | ((first | refine wIs fun K hK => ?_ | refine wOs fun K hK => ?_ | refine wQs fun K hK => ?_ | refine CallK_plain ?_ | refine CallQ_plain ?_ | refine CallR_plain ?_ | refine wCond ?_); simp [h]) | (refine wIn ?_; refine And.intro (by kernel_rfl) ?_; try simp only [thenA_n]) | (first | refine wBlock ?_ | refine wScope ?_) | ((first | refine wRet ?_ | refine wExit ?_ | refine wSkip ?_); try simp) | ((first | refine wLabel ?_ | refine wOn ?_ | refine wQn ?_); try simp only [thenA_n]) | (refine CallE.pure (c) rfl ?_) | (refine CallE.lent (c) rfl ?_) | (refine CallF.pure (c) rfl ?_) | (refine CallF.lent (c) rfl ?_) | (refine CallE.own (c) ?_) | (refine CallH.pure (c) rfl ?_) | (refine CallH.lent (c) rfl ?_) | (refine CallH.own (c) ?_)
  all_goals try simp only [thenA_p, blockA_p]
  all_goals apply hp
  all_goals simp [AResP, outB, renB, gaN]
theorem rtext : RCn 103 foS := by
 intro b a hb
 show Con _ _ _ _ (rO b (.p (SB (rdS b (0, a)).1)) (rdS b (0, a)).2)
 have c := text_all b a hb
 rw [textT_eq] at c
 unfold rdS
 rw [if_pos rfl]
 simp only
 generalize textP b a = r at *
 obtain ⟨n, k, e⟩ := r
 simp only at c ⊢
 have c0 := give0_con
 by_cases h : e = 0
 ·subst h
  rw [if_pos rfl, rO_ok]
  refine wBodyG Try.tab Try.mixed Try.func103 rfl rfl Try.ntmps103 (by simp) (by simp) fun Q hr hn hp => ?_
  repeat' first | (refine hK _ ?_; clear hK) | (refine hK _ _ ?_; clear hK) | (clear hK; refine hK _ ?_; clear hK) | (clear hK; clear hK; refine hK _ ?_; clear hK) | (clear hK; clear hK; clear hK; refine hK _ ?_; clear hK) | (clear hK; clear hK; clear hK; clear hK; refine hK _ ?_; clear hK) | (refine wSeq fun K hK => ?_) | ((first | refine wReg ?_ | refine wDrwQ rfl (by kernel_rfl) ?_ | refine wDrwI ?_ | refine wDrw (by kernel_rfl) ?_); simp only [List.map_cons, List.map_nil, strip]) | ((first | refine wIs fun K hK => ?_ | refine wOs fun K hK => ?_ | refine wQs fun K hK => ?_ | refine CallK_plain ?_ | refine CallQ_plain ?_ | refine CallR_plain ?_ | refine wCond ?_); simp) | (refine wIn ?_; refine And.intro (by kernel_rfl) ?_; try simp only [thenA_n]) | (first | refine wBlock ?_ | refine wScope ?_) | ((first | refine wRet ?_ | refine wExit ?_ | refine wSkip ?_); try simp) | ((first | refine wLabel ?_ | refine wOn ?_ | refine wQn ?_); try simp only [thenA_n]) | (refine CallE.pure (c) rfl ?_) | (refine CallE.lent (c) rfl ?_) | (refine CallF.pure (c) rfl ?_) | (refine CallF.lent (c) rfl ?_) | (refine CallE.own (c) ?_) | (refine CallH.pure (c) rfl ?_) | (refine CallH.lent (c) rfl ?_) | (refine CallH.own (c) ?_) | (refine CallE.pure (c0) rfl ?_) | (refine CallE.lent (c0) rfl ?_) | (refine CallF.pure (c0) rfl ?_) | (refine CallF.lent (c0) rfl ?_) | (refine CallE.own (c0) ?_) | (refine CallH.pure (c0) rfl ?_) | (refine CallH.lent (c0) rfl ?_) | (refine CallH.own (c0) ?_)
  all_goals first | apply hr
  all_goals refine ⟨[], by simp, by simp, ?_⟩
  all_goals simp [Try.f103, outR, outB, renB, gaN]
 ·rw [if_neg h, rO_err _ _ _ h]
  have c1 := give_con e h
  refine wBodyG Try.tab Try.mixed Try.func103 rfl rfl Try.ntmps103 (by simp) (by simp) fun Q hr hn hp => ?_
  repeat' first | (refine CallE.pan c1 ?_) | (refine hK _ ?_; clear hK) | (refine hK _ _ ?_; clear hK) | (clear hK; refine hK _ ?_; clear hK) | (clear hK; clear hK; refine hK _ ?_; clear hK) | (clear hK; clear hK; clear hK; refine hK _ ?_; clear hK) | (clear hK; clear hK; clear hK; clear hK; refine hK _ ?_; clear hK) | (refine wSeq fun K hK => ?_) | ((first | refine wReg ?_ | refine wDrwQ rfl (by kernel_rfl) ?_ | refine wDrwI ?_ | refine wDrw (by kernel_rfl) ?_); simp only [List.map_cons, List.map_nil, strip]) | ((first | refine wIs fun K hK => ?_ | refine wOs fun K hK => ?_ | refine wQs fun K hK => ?_ | refine CallK_plain ?_ | refine CallQ_plain ?_ | refine CallR_plain ?_ | refine wCond ?_); simp [h]) | (refine wIn ?_; refine And.intro (by kernel_rfl) ?_; try simp only [thenA_n]) | (first | refine wBlock ?_ | refine wScope ?_) | ((first | refine wRet ?_ | refine wExit ?_ | refine wSkip ?_); try simp) | ((first | refine wLabel ?_ | refine wOn ?_ | refine wQn ?_); try simp only [thenA_n]) | (refine CallE.pure (c) rfl ?_) | (refine CallE.lent (c) rfl ?_) | (refine CallF.pure (c) rfl ?_) | (refine CallF.lent (c) rfl ?_) | (refine CallE.own (c) ?_) | (refine CallH.pure (c) rfl ?_) | (refine CallH.lent (c) rfl ?_) | (refine CallH.own (c) ?_)
  all_goals try simp only [thenA_p, blockA_p]
  all_goals apply hp
  all_goals simp [AResP, outB, renB, gaN]
theorem rflag : RCn 138 foB := by
 intro b a hb
 show Con _ _ _ _ (rO b (.p (B (rdB b (0, a)).1)) (rdB b (0, a)).2)
 have c := rnum b a hb
 change Con _ _ _ _ (rO b (.p (I (rdN b (0, a)).1)) (rdN b (0, a)).2) at c
 unfold rdB
 generalize rdN b (0, a) = r at *
 obtain ⟨n, e, k⟩ := r
 simp only at c ⊢
 by_cases h : e = 0
 rotate_left
 ·rw [if_neg (by simp [h]), rO_err _ _ _ h]
  rw [rO_err _ _ _ h] at c
  refine wBodyG Try.tab Try.mixed Try.func138 rfl rfl Try.ntmps138 (by simp) (by simp) fun Q hr hn hp => ?_
  repeat' first | (refine CallK_gen [1024] c (by decide) (by decide) (by simp [blksOf, inN, pos, renB, ren0]) (by simp [argsG, argG, ren0, inN, pos, renCs, renC]) ?_; simp [GenK, lv, ouN, kpI, kpR, pos, ren, ren0, renB, renC, renCs]) | (refine hK _ ?_; clear hK) | (refine hK _ _ ?_; clear hK) | (clear hK; refine hK _ ?_; clear hK) | (clear hK; clear hK; refine hK _ ?_; clear hK) | (clear hK; clear hK; clear hK; refine hK _ ?_; clear hK) | (clear hK; clear hK; clear hK; clear hK; refine hK _ ?_; clear hK) | (refine wSeq fun K hK => ?_) | ((first | refine wReg ?_ | refine wDrwQ rfl (by kernel_rfl) ?_ | refine wDrwI ?_ | refine wDrw (by kernel_rfl) ?_); simp only [List.map_cons, List.map_nil, strip]) | ((first | refine wIs fun K hK => ?_ | refine wOs fun K hK => ?_ | refine wQs fun K hK => ?_ | refine CallK_plain ?_ | refine CallQ_plain ?_ | refine CallR_plain ?_ | refine wCond ?_); simp [lv, ouN, kpI, kpR, pos, ren, ren0, renB, renC, renCs]) | (refine wIn ?_; refine And.intro (by kernel_rfl) ?_; try simp only [thenA_n]) | (first | refine wBlock ?_ | refine wScope ?_) | ((first | refine wRet ?_ | refine wExit ?_ | refine wSkip ?_); try simp) | ((first | refine wLabel ?_ | refine wOn ?_ | refine wQn ?_); try simp only [thenA_n])
  all_goals try simp only [thenA_p, blockA_p]
  all_goals apply hp
  all_goals simp [AResP, outB, renB, gaN, lv, ouN, kpI, kpR, pos, ren, ren0, renC, renCs]
 subst h
 rw [rO_ok] at c
 have e3 := give_con 3 (by decide)
 by_cases h0 : n = 0
 ·have h0' : (n = 0) = True := eq_true h0
  have h1' : (n = 1) = False := eq_false (by omega)
  rw [if_neg (by simp [h0]), rO_ok, show decide (n = 1) = false from decide_eq_false (by omega)]
  clear h0
  refine wBodyG Try.tab Try.mixed Try.func138 rfl rfl Try.ntmps138 (by simp) (by simp) fun Q hr hn hp => ?_
  repeat' first | (refine CallK_gen [1024] (c) (by decide) (by decide) (by simp [blksOf, inN, pos, renB, renC, renCs, ren0, lv, ouN, kpI, kpR]) (by simp [argsG, argG, ren0, inN, pos, renCs, renC]) ⟨[], by simp, by simp, ?_⟩; simp [lv, ouN, kpI, kpR, pos, ren, ren0, renB, renC, renCs, renF, renFs]) | (refine hK _ ?_; clear hK) | (refine hK _ _ ?_; clear hK) | (clear hK; refine hK _ ?_; clear hK) | (clear hK; clear hK; refine hK _ ?_; clear hK) | (clear hK; clear hK; clear hK; refine hK _ ?_; clear hK) | (clear hK; clear hK; clear hK; clear hK; refine hK _ ?_; clear hK) | (refine wSeq fun K hK => ?_) | ((first | refine wReg ?_ | refine wDrwQ rfl (by kernel_rfl) ?_ | refine wDrwI ?_ | refine wDrw (by kernel_rfl) ?_); simp only [List.map_cons, List.map_nil, strip]) | ((first | refine wIs fun K hK => ?_ | refine wOs fun K hK => ?_ | refine wQs fun K hK => ?_ | refine CallK_plain ?_ | refine CallQ_plain ?_ | refine CallR_plain ?_ | refine wCond ?_); simp [h0', h1', lv, ouN, kpI, kpR, pos, ren, ren0, renB, renC, renCs]) | (refine wIn ?_; refine And.intro (by kernel_rfl) ?_; try simp only [thenA_n]) | (first | refine wBlock ?_ | refine wScope ?_) | ((first | refine wRet ?_ | refine wExit ?_ | refine wSkip ?_); try simp) | ((first | refine wLabel ?_ | refine wOn ?_ | refine wQn ?_); try simp only [thenA_n])
  all_goals first | apply hr
  all_goals refine ⟨[], by simp, by simp, ?_⟩
  all_goals simp [Try.f138, h1', outR, outB, renB, gaN, lv, ouN, kpI, kpR, pos, ren, ren0, renC, renCs]
 by_cases h1 : n = 1
 ·have h0' : (n = 0) = False := eq_false h0
  have h1' : (n = 1) = True := eq_true h1
  rw [if_neg (by simp [h1]), rO_ok, show decide (n = 1) = true from decide_eq_true h1]
  clear h0 h1
  refine wBodyG Try.tab Try.mixed Try.func138 rfl rfl Try.ntmps138 (by simp) (by simp) fun Q hr hn hp => ?_
  repeat' first | (refine CallK_gen [1024] (c) (by decide) (by decide) (by simp [blksOf, inN, pos, renB, renC, renCs, ren0, lv, ouN, kpI, kpR]) (by simp [argsG, argG, ren0, inN, pos, renCs, renC]) ⟨[], by simp, by simp, ?_⟩; simp [lv, ouN, kpI, kpR, pos, ren, ren0, renB, renC, renCs, renF, renFs]) | (refine hK _ ?_; clear hK) | (refine hK _ _ ?_; clear hK) | (clear hK; refine hK _ ?_; clear hK) | (clear hK; clear hK; refine hK _ ?_; clear hK) | (clear hK; clear hK; clear hK; refine hK _ ?_; clear hK) | (clear hK; clear hK; clear hK; clear hK; refine hK _ ?_; clear hK) | (refine wSeq fun K hK => ?_) | ((first | refine wReg ?_ | refine wDrwQ rfl (by kernel_rfl) ?_ | refine wDrwI ?_ | refine wDrw (by kernel_rfl) ?_); simp only [List.map_cons, List.map_nil, strip]) | ((first | refine wIs fun K hK => ?_ | refine wOs fun K hK => ?_ | refine wQs fun K hK => ?_ | refine CallK_plain ?_ | refine CallQ_plain ?_ | refine CallR_plain ?_ | refine wCond ?_); simp [h0', h1', lv, ouN, kpI, kpR, pos, ren, ren0, renB, renC, renCs]) | (refine wIn ?_; refine And.intro (by kernel_rfl) ?_; try simp only [thenA_n]) | (first | refine wBlock ?_ | refine wScope ?_) | ((first | refine wRet ?_ | refine wExit ?_ | refine wSkip ?_); try simp) | ((first | refine wLabel ?_ | refine wOn ?_ | refine wQn ?_); try simp only [thenA_n])
  all_goals first | apply hr
  all_goals refine ⟨[], by simp, by simp, ?_⟩
  all_goals simp [Try.f138, h1', outR, outB, renB, gaN, lv, ouN, kpI, kpR, pos, ren, ren0, renC, renCs]
 ·have h0' : (n = 0) = False := eq_false h0
  have h1' : (n = 1) = False := eq_false h1
  rw [if_pos (by simp [h0, h1]), rO_err _ _ _ (by decide)]
  clear h0 h1
  refine wBodyG Try.tab Try.mixed Try.func138 rfl rfl Try.ntmps138 (by simp) (by simp) fun Q hr hn hp => ?_
  repeat' first | (refine CallE.pan e3 ?_) | (refine CallK_gen [1024] (c) (by decide) (by decide) (by simp [blksOf, inN, pos, renB, renC, renCs, ren0, lv, ouN, kpI, kpR]) (by simp [argsG, argG, ren0, inN, pos, renCs, renC]) ⟨[], by simp, by simp, ?_⟩; simp [lv, ouN, kpI, kpR, pos, ren, ren0, renB, renC, renCs, renF, renFs]) | (refine hK _ ?_; clear hK) | (refine hK _ _ ?_; clear hK) | (clear hK; refine hK _ ?_; clear hK) | (clear hK; clear hK; refine hK _ ?_; clear hK) | (clear hK; clear hK; clear hK; refine hK _ ?_; clear hK) | (clear hK; clear hK; clear hK; clear hK; refine hK _ ?_; clear hK) | (refine wSeq fun K hK => ?_) | ((first | refine wReg ?_ | refine wDrwQ rfl (by kernel_rfl) ?_ | refine wDrwI ?_ | refine wDrw (by kernel_rfl) ?_); simp only [List.map_cons, List.map_nil, strip]) | ((first | refine wIs fun K hK => ?_ | refine wOs fun K hK => ?_ | refine wQs fun K hK => ?_ | refine CallK_plain ?_ | refine CallQ_plain ?_ | refine CallR_plain ?_ | refine wCond ?_); simp [h0', h1', lv, ouN, kpI, kpR, pos, ren, ren0, renB, renC, renCs]) | (refine wIn ?_; refine And.intro (by kernel_rfl) ?_; try simp only [thenA_n]) | (first | refine wBlock ?_ | refine wScope ?_) | ((first | refine wRet ?_ | refine wExit ?_ | refine wSkip ?_); try simp) | ((first | refine wLabel ?_ | refine wOn ?_ | refine wQn ?_); try simp only [thenA_n])
  all_goals try simp only [thenA_p, blockA_p]
  all_goals apply hp
  all_goals simp [AResP, outB, renB, gaN, lv, ouN, kpI, kpR, pos, ren, ren0, renC, renCs]
set_option maxHeartbeats 4000000 in
theorem rZx : RCn 95 fZx := by
 intro b a hb
 generalize ho : rO b (vOf (fZx.rd b (0, a)).1) (fZx.rd b (0, a)).2 = out
 have c0 := rnum b a hb
 refine wBodyG Try.tab Try.mixed Try.func95 rfl rfl Try.ntmps95 (by simp) (by simp) fun Q hr hn hp => ?_
 repeat' first | (refine hK _ ?_; clear hK) | (refine hK _ _ ?_; clear hK) | (clear hK; refine hK _ ?_; clear hK) | (clear hK; clear hK; refine hK _ ?_; clear hK) | (clear hK; clear hK; clear hK; refine hK _ ?_; clear hK) | (clear hK; clear hK; clear hK; clear hK; refine hK _ ?_; clear hK) | (refine wSeq fun K hK => ?_) | ((first | refine wReg ?_ | refine wDrwQ rfl (by kernel_rfl) ?_ | refine wDrwI ?_ | refine wDrw (by kernel_rfl) ?_); simp only [List.map_cons, List.map_nil, strip]) | ((first | refine wIs fun K hK => ?_ | refine wOs fun K hK => ?_ | refine wQs fun K hK => ?_ | refine CallQ_plain ?_ | refine CallR_plain ?_ | refine wCond ?_); simp) | (refine wIn ?_; refine And.intro (by kernel_rfl) ?_; try simp only [thenA_n]) | (first | refine wBlock ?_ | refine wScope ?_) | ((first | refine wRet ?_ | refine wExit ?_ | refine wSkip ?_); try simp) | ((first | refine wLabel ?_ | refine wOn ?_ | refine wQn ?_); try simp only [thenA_n])
 obtain ⟨x0, ⟨q0, a0⟩, e0⟩ := foI_got b (0, a)
 rw [e0] at c0
 simp only [vOf1, vOf2] at c0
 by_cases z0 : q0 = 0
 rotate_left
 ·have hz : (fZx.rd b (0, a)).2 = (q0, a0) := by simp only [fZx, sq_rd, e0, foI_L.stk b q0 a0 z0]
  rw [hz, rO_err _ _ _ z0] at ho
  subst ho
  rw [rO_err _ _ _ z0] at c0
  refine CallK_gen [1024] c0 (by decide) (by decide) (by simp [blksOf, inN, pos, renB, ren0, ouN, lv, kpI, kpR]) (by simp [argsG, argG, ren0, inN, pos, renCs, renC]) ?_
  simp [GenK, lv, ouN, kpI, kpR, pos, ren, ren0, renB, renC, renCs]
  all_goals try simp only [thenA_p, blockA_p]
  all_goals apply hp
  all_goals simp [AResP, outB, renB, gaN, lv, ouN, kpI, kpR, pos, ren, ren0, renC, renCs]
 subst z0
 rw [rO_ok] at c0
 refine CallK_gen [1024] c0 (by decide) (by decide) (by simp [blksOf, inN, pos, renB, ren0, ouN, lv, kpI, kpR]) (by simp [argsG, argG, ren0, inN, pos, renCs, renC]) ⟨[], by simp, by simp, ?_⟩
 simp [lv, ouN, kpI, kpR, pos, ren, ren0, renB, renC, renCs]
 repeat' first | (refine hK _ ?_; clear hK) | (refine hK _ _ ?_; clear hK) | (clear hK; refine hK _ ?_; clear hK) | (clear hK; clear hK; refine hK _ ?_; clear hK) | (clear hK; clear hK; clear hK; refine hK _ ?_; clear hK) | (clear hK; clear hK; clear hK; clear hK; refine hK _ ?_; clear hK) | (refine wSeq fun K hK => ?_) | ((first | refine wReg ?_ | refine wDrwQ rfl (by kernel_rfl) ?_ | refine wDrwI ?_ | refine wDrw (by kernel_rfl) ?_); simp only [List.map_cons, List.map_nil, strip]) | ((first | refine wIs fun K hK => ?_ | refine wOs fun K hK => ?_ | refine wQs fun K hK => ?_ | refine CallQ_plain ?_ | refine CallR_plain ?_ | refine wCond ?_); simp [lv, ouN, kpI, kpR, pos, ren, ren0, renB, renC, renCs]) | (refine wIn ?_; refine And.intro (by kernel_rfl) ?_; try simp only [thenA_n]) | (first | refine wBlock ?_ | refine wScope ?_) | ((first | refine wRet ?_ | refine wExit ?_ | refine wSkip ?_); try simp) | ((first | refine wLabel ?_ | refine wOn ?_ | refine wQn ?_); try simp only [thenA_n])
 have c1 := rnum b a0 hb
 obtain ⟨x1, ⟨q1, a1⟩, e1⟩ := foI_got b (0, a0)
 rw [e1] at c1
 simp only [vOf1, vOf2] at c1
 by_cases z1 : q1 = 0
 rotate_left
 ·have hz : (fZx.rd b (0, a)).2 = (q1, a1) := by simp only [fZx, sq_rd, e0, e1]
  rw [hz, rO_err _ _ _ z1] at ho
  subst ho
  rw [rO_err _ _ _ z1] at c1
  refine CallK_gen [1024] c1 (by decide) (by decide) (by simp [blksOf, inN, pos, renB, ren0, ouN, lv, kpI, kpR]) (by simp [argsG, argG, ren0, inN, pos, renCs, renC]) ?_
  simp [GenK, lv, ouN, kpI, kpR, pos, ren, ren0, renB, renC, renCs]
  all_goals try simp only [thenA_p, blockA_p]
  all_goals apply hp
  all_goals simp [AResP, outB, renB, gaN, lv, ouN, kpI, kpR, pos, ren, ren0, renC, renCs]
 subst z1
 rw [rO_ok] at c1
 refine CallK_gen [1024] c1 (by decide) (by decide) (by simp [blksOf, inN, pos, renB, ren0, ouN, lv, kpI, kpR]) (by simp [argsG, argG, ren0, inN, pos, renCs, renC]) ⟨[], by simp, by simp, ?_⟩
 simp [lv, ouN, kpI, kpR, pos, ren, ren0, renB, renC, renCs]
 repeat' first | (refine hK _ ?_; clear hK) | (refine hK _ _ ?_; clear hK) | (clear hK; refine hK _ ?_; clear hK) | (clear hK; clear hK; refine hK _ ?_; clear hK) | (clear hK; clear hK; clear hK; refine hK _ ?_; clear hK) | (clear hK; clear hK; clear hK; clear hK; refine hK _ ?_; clear hK) | (refine wSeq fun K hK => ?_) | ((first | refine wReg ?_ | refine wDrwQ rfl (by kernel_rfl) ?_ | refine wDrwI ?_ | refine wDrw (by kernel_rfl) ?_); simp only [List.map_cons, List.map_nil, strip]) | ((first | refine wIs fun K hK => ?_ | refine wOs fun K hK => ?_ | refine wQs fun K hK => ?_ | refine CallQ_plain ?_ | refine CallR_plain ?_ | refine wCond ?_); simp [lv, ouN, kpI, kpR, pos, ren, ren0, renB, renC, renCs]) | (refine wIn ?_; refine And.intro (by kernel_rfl) ?_; try simp only [thenA_n]) | (first | refine wBlock ?_ | refine wScope ?_) | ((first | refine wRet ?_ | refine wExit ?_ | refine wSkip ?_); try simp) | ((first | refine wLabel ?_ | refine wOn ?_ | refine wQn ?_); try simp only [thenA_n])
 have hz : fZx.rd b (0, a) = ([I x0, I x1], 0, a1) := by simp only [fZx, sq_rd, e0, e1, List.cons_append, List.nil_append]
 rw [hz] at ho
 simp only [rO_ok, vOf2] at ho
 subst ho
 all_goals first | apply hr
 all_goals refine ⟨[], by simp, by simp, ?_⟩
 all_goals simp [Try.f95, outR, outB, renB, gaN, lv, ouN, kpI, kpR, pos, ren, ren0, renC, renCs]
set_option maxHeartbeats 4000000 in
theorem rMb : RCn 98 fMb := by
 intro b a hb
 generalize ho : rO b (vOf (fMb.rd b (0, a)).1) (fMb.rd b (0, a)).2 = out
 have c0 := rnum b a hb
 refine wBodyG Try.tab Try.mixed Try.func98 rfl rfl Try.ntmps98 (by simp) (by simp) fun Q hr hn hp => ?_
 repeat' first | (refine hK _ ?_; clear hK) | (refine hK _ _ ?_; clear hK) | (clear hK; refine hK _ ?_; clear hK) | (clear hK; clear hK; refine hK _ ?_; clear hK) | (clear hK; clear hK; clear hK; refine hK _ ?_; clear hK) | (clear hK; clear hK; clear hK; clear hK; refine hK _ ?_; clear hK) | (refine wSeq fun K hK => ?_) | ((first | refine wReg ?_ | refine wDrwQ rfl (by kernel_rfl) ?_ | refine wDrwI ?_ | refine wDrw (by kernel_rfl) ?_); simp only [List.map_cons, List.map_nil, strip]) | ((first | refine wIs fun K hK => ?_ | refine wOs fun K hK => ?_ | refine wQs fun K hK => ?_ | refine CallQ_plain ?_ | refine CallR_plain ?_ | refine wCond ?_); simp) | (refine wIn ?_; refine And.intro (by kernel_rfl) ?_; try simp only [thenA_n]) | (first | refine wBlock ?_ | refine wScope ?_) | ((first | refine wRet ?_ | refine wExit ?_ | refine wSkip ?_); try simp) | ((first | refine wLabel ?_ | refine wOn ?_ | refine wQn ?_); try simp only [thenA_n])
 obtain ⟨x0, ⟨q0, a0⟩, e0⟩ := foI_got b (0, a)
 rw [e0] at c0
 simp only [vOf1, vOf2] at c0
 by_cases z0 : q0 = 0
 rotate_left
 ·have hz : (fMb.rd b (0, a)).2 = (q0, a0) := by simp only [fMb, sq_rd, e0, foI_L.stk b q0 a0 z0]
  rw [hz, rO_err _ _ _ z0] at ho
  subst ho
  rw [rO_err _ _ _ z0] at c0
  refine CallK_gen [1024] c0 (by decide) (by decide) (by simp [blksOf, inN, pos, renB, ren0, ouN, lv, kpI, kpR]) (by simp [argsG, argG, ren0, inN, pos, renCs, renC]) ?_
  simp [GenK, lv, ouN, kpI, kpR, pos, ren, ren0, renB, renC, renCs]
  all_goals try simp only [thenA_p, blockA_p]
  all_goals apply hp
  all_goals simp [AResP, outB, renB, gaN, lv, ouN, kpI, kpR, pos, ren, ren0, renC, renCs]
 subst z0
 rw [rO_ok] at c0
 refine CallK_gen [1024] c0 (by decide) (by decide) (by simp [blksOf, inN, pos, renB, ren0, ouN, lv, kpI, kpR]) (by simp [argsG, argG, ren0, inN, pos, renCs, renC]) ⟨[], by simp, by simp, ?_⟩
 simp [lv, ouN, kpI, kpR, pos, ren, ren0, renB, renC, renCs]
 repeat' first | (refine hK _ ?_; clear hK) | (refine hK _ _ ?_; clear hK) | (clear hK; refine hK _ ?_; clear hK) | (clear hK; clear hK; refine hK _ ?_; clear hK) | (clear hK; clear hK; clear hK; refine hK _ ?_; clear hK) | (clear hK; clear hK; clear hK; clear hK; refine hK _ ?_; clear hK) | (refine wSeq fun K hK => ?_) | ((first | refine wReg ?_ | refine wDrwQ rfl (by kernel_rfl) ?_ | refine wDrwI ?_ | refine wDrw (by kernel_rfl) ?_); simp only [List.map_cons, List.map_nil, strip]) | ((first | refine wIs fun K hK => ?_ | refine wOs fun K hK => ?_ | refine wQs fun K hK => ?_ | refine CallQ_plain ?_ | refine CallR_plain ?_ | refine wCond ?_); simp [lv, ouN, kpI, kpR, pos, ren, ren0, renB, renC, renCs]) | (refine wIn ?_; refine And.intro (by kernel_rfl) ?_; try simp only [thenA_n]) | (first | refine wBlock ?_ | refine wScope ?_) | ((first | refine wRet ?_ | refine wExit ?_ | refine wSkip ?_); try simp) | ((first | refine wLabel ?_ | refine wOn ?_ | refine wQn ?_); try simp only [thenA_n])
 have c1 := rnum b a0 hb
 obtain ⟨x1, ⟨q1, a1⟩, e1⟩ := foI_got b (0, a0)
 rw [e1] at c1
 simp only [vOf1, vOf2] at c1
 by_cases z1 : q1 = 0
 rotate_left
 ·have hz : (fMb.rd b (0, a)).2 = (q1, a1) := by simp only [fMb, sq_rd, e0, e1, foI_L.stk b q1 a1 z1]
  rw [hz, rO_err _ _ _ z1] at ho
  subst ho
  rw [rO_err _ _ _ z1] at c1
  refine CallK_gen [1024] c1 (by decide) (by decide) (by simp [blksOf, inN, pos, renB, ren0, ouN, lv, kpI, kpR]) (by simp [argsG, argG, ren0, inN, pos, renCs, renC]) ?_
  simp [GenK, lv, ouN, kpI, kpR, pos, ren, ren0, renB, renC, renCs]
  all_goals try simp only [thenA_p, blockA_p]
  all_goals apply hp
  all_goals simp [AResP, outB, renB, gaN, lv, ouN, kpI, kpR, pos, ren, ren0, renC, renCs]
 subst z1
 rw [rO_ok] at c1
 refine CallK_gen [1024] c1 (by decide) (by decide) (by simp [blksOf, inN, pos, renB, ren0, ouN, lv, kpI, kpR]) (by simp [argsG, argG, ren0, inN, pos, renCs, renC]) ⟨[], by simp, by simp, ?_⟩
 simp [lv, ouN, kpI, kpR, pos, ren, ren0, renB, renC, renCs]
 repeat' first | (refine hK _ ?_; clear hK) | (refine hK _ _ ?_; clear hK) | (clear hK; refine hK _ ?_; clear hK) | (clear hK; clear hK; refine hK _ ?_; clear hK) | (clear hK; clear hK; clear hK; refine hK _ ?_; clear hK) | (clear hK; clear hK; clear hK; clear hK; refine hK _ ?_; clear hK) | (refine wSeq fun K hK => ?_) | ((first | refine wReg ?_ | refine wDrwQ rfl (by kernel_rfl) ?_ | refine wDrwI ?_ | refine wDrw (by kernel_rfl) ?_); simp only [List.map_cons, List.map_nil, strip]) | ((first | refine wIs fun K hK => ?_ | refine wOs fun K hK => ?_ | refine wQs fun K hK => ?_ | refine CallQ_plain ?_ | refine CallR_plain ?_ | refine wCond ?_); simp [lv, ouN, kpI, kpR, pos, ren, ren0, renB, renC, renCs]) | (refine wIn ?_; refine And.intro (by kernel_rfl) ?_; try simp only [thenA_n]) | (first | refine wBlock ?_ | refine wScope ?_) | ((first | refine wRet ?_ | refine wExit ?_ | refine wSkip ?_); try simp) | ((first | refine wLabel ?_ | refine wOn ?_ | refine wQn ?_); try simp only [thenA_n])
 have c2 := rnum b a1 hb
 obtain ⟨x2, ⟨q2, a2⟩, e2⟩ := foI_got b (0, a1)
 rw [e2] at c2
 simp only [vOf1, vOf2] at c2
 by_cases z2 : q2 = 0
 rotate_left
 ·have hz : (fMb.rd b (0, a)).2 = (q2, a2) := by simp only [fMb, sq_rd, e0, e1, e2, foI_L.stk b q2 a2 z2]
  rw [hz, rO_err _ _ _ z2] at ho
  subst ho
  rw [rO_err _ _ _ z2] at c2
  refine CallK_gen [1024] c2 (by decide) (by decide) (by simp [blksOf, inN, pos, renB, ren0, ouN, lv, kpI, kpR]) (by simp [argsG, argG, ren0, inN, pos, renCs, renC]) ?_
  simp [GenK, lv, ouN, kpI, kpR, pos, ren, ren0, renB, renC, renCs]
  all_goals try simp only [thenA_p, blockA_p]
  all_goals apply hp
  all_goals simp [AResP, outB, renB, gaN, lv, ouN, kpI, kpR, pos, ren, ren0, renC, renCs]
 subst z2
 rw [rO_ok] at c2
 refine CallK_gen [1024] c2 (by decide) (by decide) (by simp [blksOf, inN, pos, renB, ren0, ouN, lv, kpI, kpR]) (by simp [argsG, argG, ren0, inN, pos, renCs, renC]) ⟨[], by simp, by simp, ?_⟩
 simp [lv, ouN, kpI, kpR, pos, ren, ren0, renB, renC, renCs]
 repeat' first | (refine hK _ ?_; clear hK) | (refine hK _ _ ?_; clear hK) | (clear hK; refine hK _ ?_; clear hK) | (clear hK; clear hK; refine hK _ ?_; clear hK) | (clear hK; clear hK; clear hK; refine hK _ ?_; clear hK) | (clear hK; clear hK; clear hK; clear hK; refine hK _ ?_; clear hK) | (refine wSeq fun K hK => ?_) | ((first | refine wReg ?_ | refine wDrwQ rfl (by kernel_rfl) ?_ | refine wDrwI ?_ | refine wDrw (by kernel_rfl) ?_); simp only [List.map_cons, List.map_nil, strip]) | ((first | refine wIs fun K hK => ?_ | refine wOs fun K hK => ?_ | refine wQs fun K hK => ?_ | refine CallQ_plain ?_ | refine CallR_plain ?_ | refine wCond ?_); simp [lv, ouN, kpI, kpR, pos, ren, ren0, renB, renC, renCs]) | (refine wIn ?_; refine And.intro (by kernel_rfl) ?_; try simp only [thenA_n]) | (first | refine wBlock ?_ | refine wScope ?_) | ((first | refine wRet ?_ | refine wExit ?_ | refine wSkip ?_); try simp) | ((first | refine wLabel ?_ | refine wOn ?_ | refine wQn ?_); try simp only [thenA_n])
 have c3 := rnum b a2 hb
 obtain ⟨x3, ⟨q3, a3⟩, e3⟩ := foI_got b (0, a2)
 rw [e3] at c3
 simp only [vOf1, vOf2] at c3
 by_cases z3 : q3 = 0
 rotate_left
 ·have hz : (fMb.rd b (0, a)).2 = (q3, a3) := by simp only [fMb, sq_rd, e0, e1, e2, e3]
  rw [hz, rO_err _ _ _ z3] at ho
  subst ho
  rw [rO_err _ _ _ z3] at c3
  refine CallK_gen [1024] c3 (by decide) (by decide) (by simp [blksOf, inN, pos, renB, ren0, ouN, lv, kpI, kpR]) (by simp [argsG, argG, ren0, inN, pos, renCs, renC]) ?_
  simp [GenK, lv, ouN, kpI, kpR, pos, ren, ren0, renB, renC, renCs]
  all_goals try simp only [thenA_p, blockA_p]
  all_goals apply hp
  all_goals simp [AResP, outB, renB, gaN, lv, ouN, kpI, kpR, pos, ren, ren0, renC, renCs]
 subst z3
 rw [rO_ok] at c3
 refine CallK_gen [1024] c3 (by decide) (by decide) (by simp [blksOf, inN, pos, renB, ren0, ouN, lv, kpI, kpR]) (by simp [argsG, argG, ren0, inN, pos, renCs, renC]) ⟨[], by simp, by simp, ?_⟩
 simp [lv, ouN, kpI, kpR, pos, ren, ren0, renB, renC, renCs]
 repeat' first | (refine hK _ ?_; clear hK) | (refine hK _ _ ?_; clear hK) | (clear hK; refine hK _ ?_; clear hK) | (clear hK; clear hK; refine hK _ ?_; clear hK) | (clear hK; clear hK; clear hK; refine hK _ ?_; clear hK) | (clear hK; clear hK; clear hK; clear hK; refine hK _ ?_; clear hK) | (refine wSeq fun K hK => ?_) | ((first | refine wReg ?_ | refine wDrwQ rfl (by kernel_rfl) ?_ | refine wDrwI ?_ | refine wDrw (by kernel_rfl) ?_); simp only [List.map_cons, List.map_nil, strip]) | ((first | refine wIs fun K hK => ?_ | refine wOs fun K hK => ?_ | refine wQs fun K hK => ?_ | refine CallQ_plain ?_ | refine CallR_plain ?_ | refine wCond ?_); simp [lv, ouN, kpI, kpR, pos, ren, ren0, renB, renC, renCs]) | (refine wIn ?_; refine And.intro (by kernel_rfl) ?_; try simp only [thenA_n]) | (first | refine wBlock ?_ | refine wScope ?_) | ((first | refine wRet ?_ | refine wExit ?_ | refine wSkip ?_); try simp) | ((first | refine wLabel ?_ | refine wOn ?_ | refine wQn ?_); try simp only [thenA_n])
 have hz : fMb.rd b (0, a) = ([I x0, I x1, I x2, I x3], 0, a3) := by simp only [fMb, sq_rd, e0, e1, e2, e3, List.cons_append, List.nil_append]
 rw [hz] at ho
 simp only [rO_ok, vOf2] at ho
 subst ho
 all_goals first | apply hr
 all_goals refine ⟨[], by simp, by simp, ?_⟩
 all_goals simp [Try.f98, outR, outB, renB, gaN, lv, ouN, kpI, kpR, pos, ren, ren0, renC, renCs]
set_option maxHeartbeats 8000000 in
theorem rlI (b : List UInt8) (a : Int) (hb : b.length <= 1000000000) : Con Try.prog 111 [.ptr 1024 0, .p (.v (.func (.func 96) #[] #[]))] (rB b a) (rO b (vOf ((fl 1 foI).rd b (0, a)).1) ((fl 1 foI).rd b (0, a)).2) := by
 generalize ho : rO b (vOf ((fl 1 foI).rd b (0, a)).1) ((fl 1 foI).rd b (0, a)).2 = out
 have c0 := rnum b a hb
 obtain ⟨Y, hY⟩ : ∃ Y, Y = rdC b (0, a) := ⟨_, rfl⟩
 have hC := hY
 unfold rdC at hC
 change Con _ _ _ _ (rO b (.p (I (rdN b (0, a)).1)) (rdN b (0, a)).2) at c0
 obtain ⟨n, q, a1, hN⟩ : ∃ n q a1, rdN b (0, a) = (n, q, a1) := ⟨_, _, _, rfl⟩
 rw [hN] at c0 hC
 simp only at c0 hC
 have hL : (fl 1 foI).rd b (0, a) = ([.sl 1 (rdL foI.rd b (rdC b (0, a)).1.toNat (rdC b (0, a)).2).1], (rdL foI.rd b (rdC b (0, a)).1.toNat (rdC b (0, a)).2).2) := rfl
 rw [hL, <- hY, hC] at ho
 clear hL hC hY
 refine wBodyG Try.tab Try.mixed Try.func111 rfl rfl Try.ntmps111 (by simp) (by simp) fun Q hr hn hp => ?_
 repeat' first | (refine hK _ ?_; clear hK) | (refine hK _ _ ?_; clear hK) | (clear hK; refine hK _ ?_; clear hK) | (clear hK; clear hK; refine hK _ ?_; clear hK) | (clear hK; clear hK; clear hK; refine hK _ ?_; clear hK) | (clear hK; clear hK; clear hK; clear hK; refine hK _ ?_; clear hK) | (refine wSeq fun K hK => ?_) | ((first | refine wReg ?_ | refine wDrwQ rfl (by kernel_rfl) ?_ | refine wDrwI ?_ | refine wDrw (by kernel_rfl) ?_); simp only [List.map_cons, List.map_nil, strip]) | ((first | refine wIs fun K hK => ?_ | refine wOs fun K hK => ?_ | refine wQs fun K hK => ?_ | refine CallQ_plain ?_ | refine CallR_plain ?_ | refine wCond ?_); simp) | (refine wIn ?_; refine And.intro (by kernel_rfl) ?_; try simp only [thenA_n]) | (first | refine wBlock ?_ | refine wScope ?_) | ((first | refine wRet ?_ | refine wExit ?_ | refine wSkip ?_); try simp) | ((first | refine wLabel ?_ | refine wOn ?_ | refine wQn ?_); try simp only [thenA_n])
 by_cases hq : q = 0
 rotate_left
 ·rw [if_pos hq] at ho
  simp only [rdL_stk _ _ _ _ hq] at ho
  rw [rO_err _ _ _ hq] at ho c0
  subst ho
  refine CallK_gen [1024] c0 (by decide) (by decide) (by simp [blksOf, inN, pos, renB, ren0, ouN, lv, kpI, kpR]) (by simp [argsG, argG, ren0, inN, pos, renCs, renC]) ?_
  simp [GenK, lv, ouN, kpI, kpR, pos, ren, ren0, renB, renC, renCs]
  all_goals try simp only [thenA_p, blockA_p]
  all_goals apply hp
  all_goals simp [AResP, outB, renB, gaN, lv, ouN, kpI, kpR, pos, ren, ren0, renC, renCs]
 subst hq
 rw [if_neg (by simp)] at ho
 rw [rO_ok] at c0
 refine CallK_gen [1024] c0 (by decide) (by decide) (by simp [blksOf, inN, pos, renB, ren0, ouN, lv, kpI, kpR]) (by simp [argsG, argG, ren0, inN, pos, renCs, renC]) ⟨[], by simp, by simp, ?_⟩
 simp [lv, ouN, kpI, kpR, pos, ren, ren0, renB, renC, renCs]
 by_cases h1 : n < 0
 ·have e3 := give_con 3 (by decide)
  rw [if_pos h1] at ho
  simp only [rdL_stk foI.rd b _ (e := 3) a1 (by decide)] at ho
  rw [rO_err _ _ _ (by decide)] at ho
  subst ho
  repeat' first | (refine CallE.pan e3 ?_) | (refine hK _ ?_; clear hK) | (refine hK _ _ ?_; clear hK) | (clear hK; refine hK _ ?_; clear hK) | (clear hK; clear hK; refine hK _ ?_; clear hK) | (clear hK; clear hK; clear hK; refine hK _ ?_; clear hK) | (clear hK; clear hK; clear hK; clear hK; refine hK _ ?_; clear hK) | (refine wSeq fun K hK => ?_) | ((first | refine wReg ?_ | refine wDrwQ rfl (by kernel_rfl) ?_ | refine wDrwI ?_ | refine wDrw (by kernel_rfl) ?_); simp only [List.map_cons, List.map_nil, strip]) | ((first | refine wIs fun K hK => ?_ | refine wOs fun K hK => ?_ | refine wQs fun K hK => ?_ | refine CallK_plain ?_ | refine CallQ_plain ?_ | refine CallR_plain ?_ | refine wCond ?_); simp [h1, lv, ouN, kpI, kpR, pos, ren, ren0, renB, renC, renCs]) | (refine wIn ?_; refine And.intro (by kernel_rfl) ?_; try simp only [thenA_n]) | (first | refine wBlock ?_ | refine wScope ?_) | ((first | refine wRet ?_ | refine wExit ?_ | refine wSkip ?_); try simp) | ((first | refine wLabel ?_ | refine wOn ?_ | refine wQn ?_); try simp only [thenA_n])
  all_goals try simp only [thenA_p, blockA_p]
  all_goals apply hp
  all_goals simp [AResP, outB, renB, gaN, lv, ouN, kpI, kpR, pos, ren, ren0, renC, renCs]
 rw [if_neg h1] at ho
 by_cases h2 : 1000 < n
 ·have e5 := give_con 5 (by decide)
  rw [if_pos h2] at ho
  simp only [rdL_stk foI.rd b _ (e := 5) a1 (by decide)] at ho
  rw [rO_err _ _ _ (by decide)] at ho
  subst ho
  repeat' first | (refine CallE.pan e5 ?_) | (refine hK _ ?_; clear hK) | (refine hK _ _ ?_; clear hK) | (clear hK; refine hK _ ?_; clear hK) | (clear hK; clear hK; refine hK _ ?_; clear hK) | (clear hK; clear hK; clear hK; refine hK _ ?_; clear hK) | (clear hK; clear hK; clear hK; clear hK; refine hK _ ?_; clear hK) | (refine wSeq fun K hK => ?_) | ((first | refine wReg ?_ | refine wDrwQ rfl (by kernel_rfl) ?_ | refine wDrwI ?_ | refine wDrw (by kernel_rfl) ?_); simp only [List.map_cons, List.map_nil, strip]) | ((first | refine wIs fun K hK => ?_ | refine wOs fun K hK => ?_ | refine wQs fun K hK => ?_ | refine CallK_plain ?_ | refine CallQ_plain ?_ | refine CallR_plain ?_ | refine wCond ?_); simp [h1, h2, lv, ouN, kpI, kpR, pos, ren, ren0, renB, renC, renCs]) | (refine wIn ?_; refine And.intro (by kernel_rfl) ?_; try simp only [thenA_n]) | (first | refine wBlock ?_ | refine wScope ?_) | ((first | refine wRet ?_ | refine wExit ?_ | refine wSkip ?_); try simp) | ((first | refine wLabel ?_ | refine wOn ?_ | refine wQn ?_); try simp only [thenA_n])
  all_goals try simp only [thenA_p, blockA_p]
  all_goals apply hp
  all_goals simp [AResP, outB, renB, gaN, lv, ouN, kpI, kpR, pos, ren, ren0, renC, renCs]
 rw [if_neg h2] at ho
 simp only at ho
 obtain ⟨m, rfl⟩ : ∃ m : Nat, n = m := ⟨n.toNat, by omega⟩
 simp only [Int.toNat_natCast] at ho
 have hm : m <= 1000 := by omega
 repeat' first | (refine hK _ ?_; clear hK) | (refine hK _ _ ?_; clear hK) | (clear hK; refine hK _ ?_; clear hK) | (clear hK; clear hK; refine hK _ ?_; clear hK) | (clear hK; clear hK; clear hK; refine hK _ ?_; clear hK) | (clear hK; clear hK; clear hK; clear hK; refine hK _ ?_; clear hK) | (refine wSeq fun K hK => ?_) | ((first | refine wReg ?_ | refine wDrwQ rfl (by kernel_rfl) ?_ | refine wDrwI ?_ | refine wDrw (by kernel_rfl) ?_); simp only [List.map_cons, List.map_nil, strip]) | ((first | refine wIs fun K hK => ?_ | refine wOs fun K hK => ?_ | refine wQs fun K hK => ?_ | refine CallQ_plain ?_ | refine CallR_plain ?_ | refine wCond ?_); simp [h1, h2, lv, ouN, kpI, kpR, pos, ren, ren0, renB, renC, renCs]) | (refine wIn ?_; refine And.intro (by kernel_rfl) ?_; try simp only [thenA_n]) | (first | refine wBlock ?_ | refine wScope ?_) | ((first | refine wRet ?_ | refine wExit ?_ | refine wSkip ?_); try simp) | ((first | refine wLabel ?_ | refine wOn ?_ | refine wQn ?_); try simp only [thenA_n])
 generalize hF : rdL foI.rd b m (0, a1) = full at ho
 refine wLoopG [.row 6 3 1] (fun N st => ∃ k a2 acc, k + N = m /\ acc.length = k /\ full = (acc ++ (rdL foI.rd b N (0, a2)).1, (rdL foI.rd b N (0, a2)).2) /\ st.s 0 = .ptr 1024 0 /\ st.s 1 = .p (.v (.func (.func 96) #[] #[])) /\ st.s 6 = .row 6 /\ st.s 17 = .p (I m) /\ st.s 18 = .p (I k) /\ st.b 1024 = some (.box 160 [.p (.sl 1 (by8 b)), .p (I a2)]) /\ st.b 6 = some (.row 3 1 acc)) m ⟨0, a1, [], by simp [hF, lv, ouN, kpI, kpR, pos, ren, ren0, renB, renC, renCs]⟩ fun K N st hL ⟨k, a2, acc, hk, hac, hfu, g0, g1, g6, g17, g18, b0, b6⟩ => ?_
 by_cases hlt : k < m
 ·have hlt' : (k : Int) < (m : Int) := by omega
  have hw := wrapS k m hlt (by omega)
  obtain ⟨M, rfl⟩ : ∃ M, N = M + 1 := ⟨N - 1, by omega⟩
  rw [rdL, if_pos rfl] at hfu
  have c := rnum b a2 hb
  obtain ⟨x0, ⟨q, a3⟩, he⟩ := foI_got b (0, a2)
  rw [he] at c hfu
  try simp only [vOf1, vOf2] at c
  simp only at hfu
  by_cases z : q = 0
  ·subst z
   rw [rO_ok] at c
   repeat' first | (refine CallK_gen [1024] c (by decide) (by decide) (by simp [blksOf, inN, pos, renB, ren0, b0]) (by simp [argsG, argG, ren0, inN, pos, renCs, renC]) ⟨[], by simp, by simp, ?_⟩; simp [lv, ouN, kpI, kpR, pos, ren, ren0, renB, renC, renCs, b0]) | (refine And.intro (by omega) ?_) | (refine hK _ ?_; clear hK) | (refine hK _ _ ?_; clear hK) | (clear hK; refine hK _ ?_; clear hK) | (clear hK; clear hK; refine hK _ ?_; clear hK) | (clear hK; clear hK; clear hK; refine hK _ ?_; clear hK) | (clear hK; clear hK; clear hK; clear hK; refine hK _ ?_; clear hK) | (refine wSeq fun K hK => ?_) | ((first | refine wReg ?_ | refine wDrwQ rfl (by kernel_rfl) ?_ | refine wDrwI ?_ | refine wDrw (by kernel_rfl) ?_); simp only [List.map_cons, List.map_nil, strip]) | ((first | refine wIs fun K hK => ?_ | refine wOs fun K hK => ?_ | refine wQs fun K hK => ?_ | refine CallK_plain ?_ | refine CallQ_plain ?_ | refine CallR_plain ?_ | refine wCond ?_); simp [g0, g1, g6, g17, g18, b0, b6, hlt, hlt', hw, lv, ouN, kpI, kpR, pos, ren, ren0, renB, renC, renCs]) | (refine wIn ?_; refine And.intro (by kernel_rfl) ?_; try simp only [thenA_n]) | (first | refine wBlock ?_ | refine wScope ?_) | ((first | refine wRet ?_ | refine wExit ?_ | refine wSkip ?_); try simp) | ((first | refine wLabel ?_ | refine wOn ?_ | refine wQn ?_); try simp only [thenA_n])
   refine hL _ M (by omega) ⟨k + 1, a3, acc ++ [[I x0]], by omega, by simp [hac], by rw [hfu]; simp, ?_⟩
   simp [g0, g1, g6, g17, g18, b0, b6, hw, lv, ouN, kpI, kpR, pos, ren, ren0, renB, renC, renCs]
  ·rw [rdL_stk _ _ _ _ z] at hfu
   simp only at hfu
   rw [hfu, rO_err _ _ _ z] at ho
   rw [rO_err _ _ _ z] at c
   subst ho
   repeat' first | (refine CallK_gen [1024] c (by decide) (by decide) (by simp [blksOf, inN, pos, renB, ren0, b0]) (by simp [argsG, argG, ren0, inN, pos, renCs, renC]) ?_; simp [GenK, lv, ouN, kpI, kpR, pos, ren, ren0, renB, renC, renCs, b0]) | (refine hK _ ?_; clear hK) | (refine hK _ _ ?_; clear hK) | (clear hK; refine hK _ ?_; clear hK) | (clear hK; clear hK; refine hK _ ?_; clear hK) | (clear hK; clear hK; clear hK; refine hK _ ?_; clear hK) | (clear hK; clear hK; clear hK; clear hK; refine hK _ ?_; clear hK) | (refine wSeq fun K hK => ?_) | ((first | refine wReg ?_ | refine wDrwQ rfl (by kernel_rfl) ?_ | refine wDrwI ?_ | refine wDrw (by kernel_rfl) ?_); simp only [List.map_cons, List.map_nil, strip]) | ((first | refine wIs fun K hK => ?_ | refine wOs fun K hK => ?_ | refine wQs fun K hK => ?_ | refine CallK_plain ?_ | refine CallQ_plain ?_ | refine CallR_plain ?_ | refine wCond ?_); simp [g0, g1, g6, g17, g18, b0, b6, hlt, hlt', hw, lv, ouN, kpI, kpR, pos, ren, ren0, renB, renC, renCs]) | (refine wIn ?_; refine And.intro (by kernel_rfl) ?_; try simp only [thenA_n]) | (first | refine wBlock ?_ | refine wScope ?_) | ((first | refine wRet ?_ | refine wExit ?_ | refine wSkip ?_); try simp) | ((first | refine wLabel ?_ | refine wOn ?_ | refine wQn ?_); try simp only [thenA_n])
   all_goals try simp only [thenA_p, blockA_p]
   all_goals apply hp
   all_goals simp [AResP, outB, renB, gaN, lv, ouN, kpI, kpR, pos, ren, ren0, renC, renCs, b0]
 ·have hlt' : ¬ (k : Int) < (m : Int) := by omega
  obtain rfl : N = 0 := by omega
  simp only [rdL, List.append_nil] at hfu
  rw [hfu, rO_ok, vOf1] at ho
  subst ho
  have f6 : (Av.frz st 6 1 acc).s 6 = .p (.sl 1 acc) := by simp [Av.frz, sub, sub0, g6]
  have f18 : (Av.frz st 6 1 acc).s 18 = .p (I k) := by simp [Av.frz, sub, sub0, g18]
  have f17 : (Av.frz st 6 1 acc).s 17 = .p (I m) := by simp [Av.frz, sub, sub0, g17]
  have f0 : (Av.frz st 6 1 acc).b 1024 = some (.box 160 [.p (.sl 1 (by8 b)), .p (I a2)]) := by simp [Av.frz, sub, sub0, subB, b0]
  repeat' first | (refine wFrzR 6 acc b6 ?_; generalize Av.frz st 6 1 acc = st2 at f6 f0 f17 f18 ⊢) | (refine hK _ ?_; clear hK) | (refine hK _ _ ?_; clear hK) | (clear hK; refine hK _ ?_; clear hK) | (clear hK; clear hK; refine hK _ ?_; clear hK) | (clear hK; clear hK; clear hK; refine hK _ ?_; clear hK) | (clear hK; clear hK; clear hK; clear hK; refine hK _ ?_; clear hK) | (refine wSeq fun K hK => ?_) | ((first | refine wReg ?_ | refine wDrwQ rfl (by kernel_rfl) ?_ | refine wDrwI ?_ | refine wDrw (by kernel_rfl) ?_); simp only [List.map_cons, List.map_nil, strip]) | ((first | refine wIs fun K hK => ?_ | refine wOs fun K hK => ?_ | refine wQs fun K hK => ?_ | refine CallK_plain ?_ | refine CallQ_plain ?_ | refine CallR_plain ?_ | refine wCond ?_); simp [f6, f0, f17, f18, hlt, hlt']) | (refine wIn ?_; refine And.intro (by kernel_rfl) ?_; try simp only [thenA_n]) | (first | refine wBlock ?_ | refine wScope ?_) | ((first | refine wRet ?_ | refine wExit ?_ | refine wSkip ?_); try simp) | ((first | refine wLabel ?_ | refine wOn ?_ | refine wQn ?_); try simp only [thenA_n])
  all_goals first | apply hr
  all_goals refine ⟨[], by simp, by simp, ?_⟩
  all_goals simp [Try.f111, outR, outB, renB, gaN, f6, f0]
end Go.Proofs.Ytleejpddecjhcaa
