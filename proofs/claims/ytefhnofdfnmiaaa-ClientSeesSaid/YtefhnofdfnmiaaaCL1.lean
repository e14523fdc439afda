/- Clients: what happens to one, step by step. -/
import Derived.Test.YtefhnofdfnmiaaaZC
import Derived.Test.YtefhnofdfnmiaaaAw26
import Derived.Test.YtefhnofdfnmiaaaAvTup
import Derived.Test.YtefhnofdfnmiaaaAvStr
namespace Go.Proofs.Ytefhnofdfnmiaaa
set_option linter.unusedSimpArgs false
set_option linter.unusedVariables false
set_option maxRecDepth 8000
open Go Go.Av
attribute [local simp] Try.T1 Try.T2 Try.T3 Try.T4 Try.T5 Try.T9 Try.T12 Try.T15 Try.T16 Try.T17 Try.T21 Try.T22 Try.T23 Try.T24 Try.T26 Try.T27 Try.T29 Try.T30 Try.T32 Try.T33 Try.T34 Try.T35 Try.T36 Try.T38 Try.T40 Try.T42 Try.T43 Try.T45 Try.T47 Try.T49 Try.T50 Try.T51 Try.T53 Try.T54 Try.T55 Try.T56 Try.T57 Try.T59 Try.T61 Try.T63 Try.T65 Try.T66 Try.T67 Try.T69 Try.T70 Try.T71 Try.T72 Try.T73 Try.T74 Try.T75 Try.T76 Try.T78 Try.T79 Try.T80 Try.T81 Try.T82 Try.T83 Try.T84 Try.T85 Try.T86 Try.T87 Try.T88 Try.T89 Try.T90 Try.T91 Try.T92 Try.T93 Try.T94 Try.T95 Try.T96 Try.T97 Try.T98 Try.T99 Try.T101 Try.T102 Try.T103 Try.T104 Try.T105 Try.T106 Try.T107 Try.T108 Try.T109 Try.T112 Try.T115 Try.T116 Try.T119 Try.T120
attribute [local irreducible] Go.Av.CallK Go.Av.CallE Go.Av.CallQ Go.Av.CallF Go.Av.CallR Go.Av.CallH Go.Av.Con
/-- A note. -/
structure Nt where
  (s k : Int)
  (p : List UInt8)
  (w e n : Int)
  deriving DecidableEq
def Nt.cells (x : Nt) : List PV := [I x.s, I x.k, SB x.p, I x.w, I x.e, I x.n]
def nts (l : List Nt) : List (List PV) := l.map Nt.cells
@[simp] theorem nts_len (l : List Nt) : (nts l).length = l.length := by simp [nts]
theorem nts_snoc (l : List Nt) (x : Nt) : nts l ++ [[I x.s, I x.k, SB x.p, I x.w, I x.e, I x.n]] = nts (l ++ [x]) := by simp [nts, Nt.cells]
/-- A client. -/
structure Cl where
  (id sv ph ss se sn xi wt rd : Int)
  (nt : List Nt)
  deriving DecidableEq
def Cl.cells (c : Cl) : List PV := [I c.id, I c.sv, I c.ph, I c.ss, I c.se, I c.sn, I c.xi, I c.wt, I c.rd, .sl 6 (nts c.nt)]
/-- A request. -/
structure Rq where
  (k s x dk we wn : Int)
  (ops put drop : List (List PV))
def Rq.cells (r : Rq) : List PV := [I r.k, I r.s, I r.x, .sl 6 r.ops, I r.dk, .sl 4 r.put, .sl 1 r.drop, I r.we, I r.wn]
/-- A word. -/
structure Wd where
  (cl sv kd xi ss ae an : Int)
  (r : Rq)
  (rd : Int)
  (pa : List UInt8)
  (wa : Bool)
  (er : Int)
  (ma np nd : List UInt8)
  (nv nk no : Int)
  (nm : List (List PV))
  (nt : Nt)
def Wd.cells (w : Wd) : List PV := [I w.cl, I w.sv, I w.kd, I w.xi, I w.ss, I w.ae, I w.an, I w.r.k, I w.r.s, I w.r.x, .sl 6 w.r.ops, I w.r.dk, .sl 4 w.r.put, .sl 1 w.r.drop, I w.r.we, I w.r.wn, I w.rd, SB w.pa, B w.wa, I w.er, SB w.ma, SB w.np, SB w.nd, I w.nv, I w.nk, I w.no, .sl 1 w.nm, I w.nt.s, I w.nt.k, SB w.nt.p, I w.nt.w, I w.nt.e, I w.nt.n]
def Rq.zero : Rq := ⟨0, 0, 0, 0, 0, 0, [], [], []⟩
def Nt.zero : Nt := ⟨0, 0, [], 0, 0, 0⟩
/-- A word of that kind. -/
def wdZ (c v k : Int) : Wd := ⟨c, v, k, 0, 0, 0, 0, .zero, 0, [], false, 0, [], [], [], 0, 0, 0, [], .zero⟩
def hBx (c : Cl) (X Y : V) : List V := [.p (I c.id), .p (I c.sv), .p (I c.ph), .p (I c.ss), .p (I c.se), .p (I c.sn), .p (I c.xi), .p (I c.wt), .p (I c.rd), X, Y]
/-- What stands behind the pointer: the client, its notes, no results yet. -/
abbrev hW (c : Cl) : List Blk := [.box 78 (hBx c (.row 1025) (.nil 36)), .row 45 6 (nts c.nt)]
def seeC (c : Cl) (e n : Int) : Cl := if 0 < zcmp e n c.se c.sn then { c with se := e, sn := n } else c
theorem see_con (c : Cl) (e n : Int) : Con Try.prog 57 [.ptr 1024 0, .p (.agg [I e, I n])] (hW c) (.ret (.tup []) [] (hW (seeC c e n))) := by
  have c1 := cmp_con e n c.se c.sn
  unfold hW hBx seeC
  by_cases h : 0 < zcmp e n c.se c.sn
  · rw [if_pos h]
    generalize zcmp e n c.se c.sn = z at *
    refine wBodyG Try.tab Try.mixed Try.func57 rfl rfl Try.ntmps57 (by simp) (by simp) fun Q hr hn hp => ?_
    repeat' first | (refine hK _ ?_; clear hK) | (refine hK _ _ ?_; clear hK) | (clear hK; refine hK _ ?_; clear hK) | (clear hK; clear hK; refine hK _ ?_; clear hK) | (clear hK; clear hK; clear hK; refine hK _ ?_; clear hK) | (clear hK; clear hK; clear hK; clear hK; refine hK _ ?_; clear hK) | (refine wSeq fun K hK => ?_) | ((first | refine wReg ?_ | refine wDrwQ rfl (by kernel_rfl) ?_ | refine wDrwI ?_ | refine wDrw (by kernel_rfl) ?_); simp only [List.map_cons, List.map_nil, strip]) | ((first | refine wIs fun K hK => ?_ | refine wOs fun K hK => ?_ | refine wQs fun K hK => ?_ | refine CallK_plain ?_ | refine CallQ_plain ?_ | refine CallR_plain ?_ | refine wCond ?_); simp [h]) | (refine wIn ?_; refine And.intro (by kernel_rfl) ?_; try simp only [thenA_n]) | (first | refine wBlock ?_ | refine wScope ?_) | ((first | refine wRet ?_ | refine wExit ?_ | refine wSkip ?_); try simp) | ((first | refine wLabel ?_ | refine wOn ?_ | refine wQn ?_); try simp only [thenA_n]) | (refine CallE.pure (c1) rfl ?_) | (refine CallE.lent (c1) rfl ?_) | (refine CallF.pure (c1) rfl ?_) | (refine CallF.lent (c1) rfl ?_) | (refine CallE.own (c1) ?_) | (refine CallH.pure (c1) rfl ?_) | (refine CallH.lent (c1) rfl ?_) | (refine CallH.own (c1) ?_)
    all_goals first | apply hn | apply hr
    all_goals refine ⟨[], by simp, by simp, ?_⟩
    all_goals simp [Try.f57, outR, outB, renB, gaN]
  · rw [if_neg h]
    generalize zcmp e n c.se c.sn = z at *
    refine wBodyG Try.tab Try.mixed Try.func57 rfl rfl Try.ntmps57 (by simp) (by simp) fun Q hr hn hp => ?_
    repeat' first | (refine hK _ ?_; clear hK) | (refine hK _ _ ?_; clear hK) | (clear hK; refine hK _ ?_; clear hK) | (clear hK; clear hK; refine hK _ ?_; clear hK) | (clear hK; clear hK; clear hK; refine hK _ ?_; clear hK) | (clear hK; clear hK; clear hK; clear hK; refine hK _ ?_; clear hK) | (refine wSeq fun K hK => ?_) | ((first | refine wReg ?_ | refine wDrwQ rfl (by kernel_rfl) ?_ | refine wDrwI ?_ | refine wDrw (by kernel_rfl) ?_); simp only [List.map_cons, List.map_nil, strip]) | ((first | refine wIs fun K hK => ?_ | refine wOs fun K hK => ?_ | refine wQs fun K hK => ?_ | refine CallK_plain ?_ | refine CallQ_plain ?_ | refine CallR_plain ?_ | refine wCond ?_); simp [h]) | (refine wIn ?_; refine And.intro (by kernel_rfl) ?_; try simp only [thenA_n]) | (first | refine wBlock ?_ | refine wScope ?_) | ((first | refine wRet ?_ | refine wExit ?_ | refine wSkip ?_); try simp) | ((first | refine wLabel ?_ | refine wOn ?_ | refine wQn ?_); try simp only [thenA_n]) | (refine CallE.pure (c1) rfl ?_) | (refine CallE.lent (c1) rfl ?_) | (refine CallF.pure (c1) rfl ?_) | (refine CallF.lent (c1) rfl ?_) | (refine CallE.own (c1) ?_) | (refine CallH.pure (c1) rfl ?_) | (refine CallH.lent (c1) rfl ?_) | (refine CallH.own (c1) ?_)
    all_goals first | apply hn | apply hr
    all_goals refine ⟨[], by simp, by simp, ?_⟩
    all_goals simp [Try.f57, outR, outB, renB, gaN]
theorem word_con (c : Cl) (k : Int) : Con Try.prog 31 [.ptr 1024 0, .p (I k)] (hW c) (.ret (.p (.agg (wdZ c.id c.sv k).cells)) [] (hW c)) := by
  unfold hW hBx wdZ Wd.cells Rq.zero Nt.zero
  dsimp only
  refine wBodyG Try.tab Try.mixed Try.func31 rfl rfl Try.ntmps31 (by simp) (by simp) fun Q hr hn hp => ?_
  repeat' first | (refine hK _ ?_; clear hK) | (refine hK _ _ ?_; clear hK) | (clear hK; refine hK _ ?_; clear hK) | (clear hK; clear hK; refine hK _ ?_; clear hK) | (clear hK; clear hK; clear hK; refine hK _ ?_; clear hK) | (clear hK; clear hK; clear hK; clear hK; refine hK _ ?_; clear hK) | (refine wSeq fun K hK => ?_) | ((first | refine wReg ?_ | refine wDrwQ rfl (by kernel_rfl) ?_ | refine wDrwI ?_ | refine wDrw (by kernel_rfl) ?_); simp only [List.map_cons, List.map_nil, strip]) | ((first | refine wIs fun K hK => ?_ | refine wOs fun K hK => ?_ | refine wQs fun K hK => ?_ | refine CallK_plain ?_ | refine CallQ_plain ?_ | refine CallR_plain ?_ | refine wCond ?_); simp) | (refine wIn ?_; refine And.intro (by kernel_rfl) ?_; try simp only [thenA_n]) | (first | refine wBlock ?_ | refine wScope ?_) | ((first | refine wRet ?_ | refine wExit ?_ | refine wSkip ?_); try simp) | ((first | refine wLabel ?_ | refine wOn ?_ | refine wQn ?_); try simp only [thenA_n])
  all_goals first | apply hn | apply hr
  all_goals refine ⟨[], by simp, by simp, ?_⟩
  all_goals simp [Try.f31, outR, outB, renB, gaN, show ByteArray.empty = bs [] from rfl]
def waitE (c : Cl) : Int := if c.ph = 2 then (if c.wt = 0 then 0 else 14) else 9
def waitC (c : Cl) (k : Int) : Cl := if waitE c = 0 then { c with xi := c.xi + 1, wt := c.xi + 1, rd := k } else c
theorem wait_con (c : Cl) (k : Int) (hx : c.xi ≤ 1000000000 ∧ 0 ≤ c.xi) : Con Try.prog 34 [.ptr 1024 0, .p (I k)] (hW c) (.ret (.p (I (waitE c))) [] (hW (waitC c k))) := by
  unfold waitC waitE
  have hw : IntKind.i64.wrap (c.xi + 1) = c.xi + 1 := by rw [wrap_id] <;> omega
  by_cases h1 : c.ph = 2
  · by_cases h2 : c.wt = 0
    · rw [if_pos h1, if_pos h2, if_pos rfl]
      unfold hW hBx
      refine wBodyG Try.tab Try.mixed Try.func34 rfl rfl Try.ntmps34 (by simp) (by simp) fun Q hr hn hp => ?_
      repeat' first | (refine hK _ ?_; clear hK) | (refine hK _ _ ?_; clear hK) | (clear hK; refine hK _ ?_; clear hK) | (clear hK; clear hK; refine hK _ ?_; clear hK) | (clear hK; clear hK; clear hK; refine hK _ ?_; clear hK) | (clear hK; clear hK; clear hK; clear hK; refine hK _ ?_; clear hK) | (refine wSeq fun K hK => ?_) | ((first | refine wReg ?_ | refine wDrwQ rfl (by kernel_rfl) ?_ | refine wDrwI ?_ | refine wDrw (by kernel_rfl) ?_); simp only [List.map_cons, List.map_nil, strip]) | ((first | refine wIs fun K hK => ?_ | refine wOs fun K hK => ?_ | refine wQs fun K hK => ?_ | refine CallK_plain ?_ | refine CallQ_plain ?_ | refine CallR_plain ?_ | refine wCond ?_); simp [h1, h2, hw]) | (refine wIn ?_; refine And.intro (by kernel_rfl) ?_; try simp only [thenA_n]) | (first | refine wBlock ?_ | refine wScope ?_) | ((first | refine wRet ?_ | refine wExit ?_ | refine wSkip ?_); try simp) | ((first | refine wLabel ?_ | refine wOn ?_ | refine wQn ?_); try simp only [thenA_n])
      all_goals first | apply hn | apply hr
      all_goals refine ⟨[], by simp, by simp, ?_⟩
      all_goals simp [Try.f34, outR, outB, renB, gaN, hw, h1]
    · rw [if_pos h1, if_neg h2, if_neg (by decide)]
      unfold hW hBx
      refine wBodyG Try.tab Try.mixed Try.func34 rfl rfl Try.ntmps34 (by simp) (by simp) fun Q hr hn hp => ?_
      repeat' first | (refine hK _ ?_; clear hK) | (refine hK _ _ ?_; clear hK) | (clear hK; refine hK _ ?_; clear hK) | (clear hK; clear hK; refine hK _ ?_; clear hK) | (clear hK; clear hK; clear hK; refine hK _ ?_; clear hK) | (clear hK; clear hK; clear hK; clear hK; refine hK _ ?_; clear hK) | (refine wSeq fun K hK => ?_) | ((first | refine wReg ?_ | refine wDrwQ rfl (by kernel_rfl) ?_ | refine wDrwI ?_ | refine wDrw (by kernel_rfl) ?_); simp only [List.map_cons, List.map_nil, strip]) | ((first | refine wIs fun K hK => ?_ | refine wOs fun K hK => ?_ | refine wQs fun K hK => ?_ | refine CallK_plain ?_ | refine CallQ_plain ?_ | refine CallR_plain ?_ | refine wCond ?_); simp [h1, h2, hw]) | (refine wIn ?_; refine And.intro (by kernel_rfl) ?_; try simp only [thenA_n]) | (first | refine wBlock ?_ | refine wScope ?_) | ((first | refine wRet ?_ | refine wExit ?_ | refine wSkip ?_); try simp) | ((first | refine wLabel ?_ | refine wOn ?_ | refine wQn ?_); try simp only [thenA_n])
      all_goals first | apply hn | apply hr
      all_goals refine ⟨[], by simp, by simp, ?_⟩
      all_goals simp [Try.f34, outR, outB, renB, gaN, hw, h1]
  · rw [if_neg h1, if_neg (by decide)]
    unfold hW hBx
    refine wBodyG Try.tab Try.mixed Try.func34 rfl rfl Try.ntmps34 (by simp) (by simp) fun Q hr hn hp => ?_
    repeat' first | (refine hK _ ?_; clear hK) | (refine hK _ _ ?_; clear hK) | (clear hK; refine hK _ ?_; clear hK) | (clear hK; clear hK; refine hK _ ?_; clear hK) | (clear hK; clear hK; clear hK; refine hK _ ?_; clear hK) | (clear hK; clear hK; clear hK; clear hK; refine hK _ ?_; clear hK) | (refine wSeq fun K hK => ?_) | ((first | refine wReg ?_ | refine wDrwQ rfl (by kernel_rfl) ?_ | refine wDrwI ?_ | refine wDrw (by kernel_rfl) ?_); simp only [List.map_cons, List.map_nil, strip]) | ((first | refine wIs fun K hK => ?_ | refine wOs fun K hK => ?_ | refine wQs fun K hK => ?_ | refine CallK_plain ?_ | refine CallQ_plain ?_ | refine CallR_plain ?_ | refine wCond ?_); simp [h1, hw]) | (refine wIn ?_; refine And.intro (by kernel_rfl) ?_; try simp only [thenA_n]) | (first | refine wBlock ?_ | refine wScope ?_) | ((first | refine wRet ?_ | refine wExit ?_ | refine wSkip ?_); try simp) | ((first | refine wLabel ?_ | refine wOn ?_ | refine wQn ?_); try simp only [thenA_n])
    all_goals first | apply hn | apply hr
    all_goals refine ⟨[], by simp, by simp, ?_⟩
    all_goals simp [Try.f34, outR, outB, renB, gaN, hw]
/-- What waits ends. -/
def endC (c : Cl) : Cl := { c with wt := 0, rd := 0 }
/-- A result: whose, which request, whether nobody knows, the word. -/
def rsC (i x : Int) (u : Bool) (w : Wd) : List PV := I i :: I x :: B u :: w.cells
theorem end0_con (c : Cl) (h : c.wt = 0) : Con Try.prog 30 [.ptr 1024 0] (hW c) (.ret (.tup []) [] (hW (endC c))) := by
  unfold hW hBx endC
  refine wBodyG Try.tab Try.mixed Try.func30 rfl rfl Try.ntmps30 (by simp) (by simp) fun Q hr hn hp => ?_
  repeat' first | (refine hK _ ?_; clear hK) | (refine hK _ _ ?_; clear hK) | (clear hK; refine hK _ ?_; clear hK) | (clear hK; clear hK; refine hK _ ?_; clear hK) | (clear hK; clear hK; clear hK; refine hK _ ?_; clear hK) | (clear hK; clear hK; clear hK; clear hK; refine hK _ ?_; clear hK) | (refine wSeq fun K hK => ?_) | ((first | refine wReg ?_ | refine wDrwQ rfl (by kernel_rfl) ?_ | refine wDrwI ?_ | refine wDrw (by kernel_rfl) ?_); simp only [List.map_cons, List.map_nil, strip]) | ((first | refine wIs fun K hK => ?_ | refine wOs fun K hK => ?_ | refine wQs fun K hK => ?_ | refine CallK_plain ?_ | refine CallQ_plain ?_ | refine CallR_plain ?_ | refine wCond ?_); simp [h]) | (refine wIn ?_; refine And.intro (by kernel_rfl) ?_; try simp only [thenA_n]) | (first | refine wBlock ?_ | refine wScope ?_) | ((first | refine wRet ?_ | refine wExit ?_ | refine wSkip ?_); try simp) | ((first | refine wLabel ?_ | refine wOn ?_ | refine wQn ?_); try simp only [thenA_n])
  all_goals first | apply hn | apply hr
  all_goals refine ⟨[], by simp, by simp, ?_⟩
  all_goals simp [Try.f30, outR, outB, renB, gaN]
/-- What stands there with one result. -/
abbrev hW1 (c : Cl) : List Blk := [.box 78 (hBx c (.row 1025) (.row 2048)), .row 45 6 (nts c.nt)]
theorem end1_con (c : Cl) (h : ¬ c.wt = 0) : Con Try.prog 30 [.ptr 1024 0] (hW c) (.ret (.tup []) [.row 59 36 [rsC c.id c.wt true (wdZ 0 0 0)]] (hW1 (endC c))) := by
  unfold hW hW1 hBx endC rsC wdZ Wd.cells Rq.zero Nt.zero
  dsimp only
  refine wBodyG Try.tab Try.mixed Try.func30 rfl rfl Try.ntmps30 (by simp) (by simp) fun Q hr hn hp => ?_
  repeat' first | (refine And.intro (by omega) (Or.inl ?_)) | (refine And.intro (by omega) ?_) | (refine hK _ ?_; clear hK) | (refine hK _ _ ?_; clear hK) | (clear hK; refine hK _ ?_; clear hK) | (clear hK; clear hK; refine hK _ ?_; clear hK) | (clear hK; clear hK; clear hK; refine hK _ ?_; clear hK) | (clear hK; clear hK; clear hK; clear hK; refine hK _ ?_; clear hK) | (refine wSeq fun K hK => ?_) | ((first | refine wReg ?_ | refine wDrwQ rfl (by kernel_rfl) ?_ | refine wDrwI ?_ | refine wDrw (by kernel_rfl) ?_); simp only [List.map_cons, List.map_nil, strip]) | ((first | refine wIs fun K hK => ?_ | refine wOs fun K hK => ?_ | refine wQs fun K hK => ?_ | refine CallK_plain ?_ | refine CallQ_plain ?_ | refine CallR_plain ?_ | refine wCond ?_); simp [h, show ByteArray.empty = bs [] from rfl]) | (refine wIn ?_; refine And.intro (by kernel_rfl) ?_; try simp only [thenA_n]) | (first | refine wBlock ?_ | refine wScope ?_) | ((first | refine wRet ?_ | refine wExit ?_ | refine wSkip ?_); try simp) | ((first | refine wLabel ?_ | refine wOn ?_ | refine wQn ?_); try simp only [thenA_n])
  all_goals first | apply hn | apply hr
  all_goals refine ⟨[25], by simp, by simp, ?_⟩
  all_goals simp [Try.f30, outR, outB, renB, gaN, show ByteArray.empty = bs [] from rfl]
theorem cloneNt_con (l : List (List PV)) (hl : l.length ≤ 1000000) : RCon 47 [.p (.sl 6 l)] 45 6 l := by
  refine wBodyR Try.tab Try.mixed Try.func47 rfl rfl Try.ntmps47 rfl (by simp) (by simp) fun Q hr hn => ?_
  repeat' first | (refine wRetG [.row 2 45 6] ?_) | (refine And.intro (by omega) (Or.inl ?_)) | (refine And.intro ?_ (fun hnil => ?_)) | (refine hK _ ?_; clear hK) | (refine hK _ _ ?_; clear hK) | (clear hK; refine hK _ ?_; clear hK) | (clear hK; clear hK; refine hK _ ?_; clear hK) | (clear hK; clear hK; clear hK; refine hK _ ?_; clear hK) | (clear hK; clear hK; clear hK; clear hK; refine hK _ ?_; clear hK) | (refine wSeq fun K hK => ?_) | ((first | refine wReg ?_ | refine wDrwQ rfl (by kernel_rfl) ?_ | refine wDrwI ?_ | refine wDrw (by kernel_rfl) ?_); simp only [List.map_cons, List.map_nil, strip]) | ((first | refine wIs fun K hK => ?_ | refine wOs fun K hK => ?_ | refine wQs fun K hK => ?_ | refine CallK_plain ?_ | refine CallQ_plain ?_ | refine CallR_plain ?_ | refine wCond ?_); simp) | (refine wIn ?_; refine And.intro (by kernel_rfl) ?_; try simp only [thenA_n]) | (first | refine wBlock ?_ | refine wScope ?_) | ((first | refine wRet ?_ | refine wExit ?_ | refine wSkip ?_); try simp) | ((first | refine wLabel ?_ | refine wOn ?_ | refine wQn ?_); try simp only [thenA_n])
  · refine hr _ 7 (by simp) (by simp) (by omega)
  · subst hnil
    simp only [thenA_r]
    refine hr _ 2 (by simp) (by simp) (by omega)
theorem hearing_con (c : Cl) (hn : c.nt.length ≤ 1000000) : Con Try.prog 29 [.p (.agg c.cells)] [] (.ret (.ptr 2048 0) [.box 78 (hBx c (.row 2049) (.nil 36)), .row 45 6 (nts c.nt)] []) := by
  have c1 := cloneNt_con (nts c.nt) (by simpa using hn)
  unfold hBx Cl.cells
  refine wBodyG Try.tab Try.mixed Try.func29 rfl rfl Try.ntmps29 (by simp) (by simp) fun Q hr hn hp => ?_
  repeat' first | (refine hK _ ?_; clear hK) | (refine hK _ _ ?_; clear hK) | (clear hK; refine hK _ ?_; clear hK) | (clear hK; clear hK; refine hK _ ?_; clear hK) | (clear hK; clear hK; clear hK; refine hK _ ?_; clear hK) | (clear hK; clear hK; clear hK; clear hK; refine hK _ ?_; clear hK) | (refine wSeq fun K hK => ?_) | ((first | refine wReg ?_ | refine wDrwQ rfl (by kernel_rfl) ?_ | refine wDrwI ?_ | refine wDrw (by kernel_rfl) ?_); simp only [List.map_cons, List.map_nil, strip]) | ((first | refine wIs fun K hK => ?_ | refine wOs fun K hK => ?_ | refine wQs fun K hK => ?_ | refine CallK_plain ?_ | refine CallQ_plain ?_ | refine CallR_plain ?_ | refine wCond ?_); simp) | (refine wIn ?_; refine And.intro (by kernel_rfl) ?_; try simp only [thenA_n]) | (first | refine wBlock ?_ | refine wScope ?_) | ((first | refine wRet ?_ | refine wExit ?_ | refine wSkip ?_); try simp) | ((first | refine wLabel ?_ | refine wOn ?_ | refine wQn ?_); try simp only [thenA_n]) | (refine CallE.pure (c1) rfl ?_) | (refine CallE.lent (c1) rfl ?_) | (refine CallF.pure (c1) rfl ?_) | (refine CallF.lent (c1) rfl ?_) | (refine CallE.own (c1) ?_) | (refine CallH.pure (c1) rfl ?_) | (refine CallH.lent (c1) rfl ?_) | (refine CallH.own (c1) ?_)
  all_goals first | apply hn | apply hr
  all_goals refine ⟨[9, 5], by simp, by simp, ?_⟩
  all_goals simp [Try.f29, outR, outB, renB, gaN]
end Go.Proofs.Ytefhnofdfnmiaaa
