/- Texts that the proof needs: CL1 CA CB TryA Try CC CD CE CES CF CG CH RG1 RG2 RGA RD1 RD2 RG4 RG4c. -/
import Derived.Test.YtefhnofdfnmiaaaP17ClientPlays
import Derived.Test.YtefhnofdfnmiaaaP18ClientPlays
import Derived.Test.YtefhnofdfnmiaaaP20ClientPlays
import Derived.Test.YtefhnofdfnmiaaaP15ClientPlays
import Derived.Test.YtefhnofdfnmiaaaP16ClientPlays
import Derived.WalkKit
import Derived.Test.YtefhnofdfnmiaaaP14ClientPlays
import Derived.Defers
import Derived.Recover
/- Clients: what happens to one, step by step. -/
namespace Go.Proofs.Ytefhnofdfnmiaaa
set_option linter.unusedSimpArgs false
set_option linter.unusedVariables false
set_option maxRecDepth 8000
open Go Go.Av
attribute [local simp] Try.T1 Try.T2 Try.T3 Try.T4 Try.T5 Try.T9 Try.T12 Try.T15 Try.T16 Try.T17 Try.T21 Try.T22 Try.T23 Try.T24 Try.T26 Try.T27 Try.T29 Try.T30 Try.T32 Try.T33 Try.T34 Try.T35 Try.T36 Try.T38 Try.T40 Try.T42 Try.T43 Try.T45 Try.T47 Try.T49 Try.T50 Try.T51 Try.T53 Try.T54 Try.T55 Try.T56 Try.T57 Try.T59 Try.T61 Try.T63 Try.T65 Try.T66 Try.T67 Try.T69 Try.T70 Try.T71 Try.T72 Try.T73 Try.T74 Try.T75 Try.T76 Try.T78 Try.T79 Try.T80 Try.T81 Try.T82 Try.T83 Try.T84 Try.T85 Try.T86 Try.T87 Try.T88 Try.T89 Try.T90 Try.T91 Try.T92 Try.T93 Try.T94 Try.T95 Try.T96 Try.T97 Try.T98 Try.T99 Try.T101 Try.T102 Try.T103 Try.T104 Try.T105 Try.T106 Try.T107 Try.T108 Try.T109 Try.T112 Try.T115 Try.T116 Try.T119 Try.T120
attribute [local irreducible] Go.Av.CallK Go.Av.CallE Go.Av.CallQ Go.Av.CallF Go.Av.CallR Go.Av.CallH Go.Av.Con
/-- A note. -/
structure Nt where
  (s k : Int)
  (p : List UInt8)
  (w e n : Int)
  deriving DecidableEq
def Nt.cells (x : Nt) : List PV := [I x.s, I x.k, SB x.p, I x.w, I x.e, I x.n]
def nts (l : List Nt) : List (List PV) := l.map Nt.cells
@[simp] theorem nts_len (l : List Nt) : (nts l).length = l.length := by simp [nts]
theorem nts_snoc (l : List Nt) (x : Nt) : nts l ++ [[I x.s, I x.k, SB x.p, I x.w, I x.e, I x.n]] = nts (l ++ [x]) := by simp [nts, Nt.cells]
/-- A client. -/
structure Cl where
  (id sv ph ss se sn xi wt rd : Int)
  (nt : List Nt)
  deriving DecidableEq
def Cl.cells (c : Cl) : List PV := [I c.id, I c.sv, I c.ph, I c.ss, I c.se, I c.sn, I c.xi, I c.wt, I c.rd, .sl 6 (nts c.nt)]
/-- A request. -/
structure Rq where
  (k s x dk we wn : Int)
  (ops put drop : List (List PV))
def Rq.cells (r : Rq) : List PV := [I r.k, I r.s, I r.x, .sl 6 r.ops, I r.dk, .sl 4 r.put, .sl 1 r.drop, I r.we, I r.wn]
/-- A word. -/
structure Wd where
  (cl sv kd xi ss ae an : Int)
  (r : Rq)
  (rd : Int)
  (pa : List UInt8)
  (wa : Bool)
  (er : Int)
  (ma np nd : List UInt8)
  (nv nk no : Int)
  (nm : List (List PV))
  (nt : Nt)
def Wd.cells (w : Wd) : List PV := [I w.cl, I w.sv, I w.kd, I w.xi, I w.ss, I w.ae, I w.an, I w.r.k, I w.r.s, I w.r.x, .sl 6 w.r.ops, I w.r.dk, .sl 4 w.r.put, .sl 1 w.r.drop, I w.r.we, I w.r.wn, I w.rd, SB w.pa, B w.wa, I w.er, SB w.ma, SB w.np, SB w.nd, I w.nv, I w.nk, I w.no, .sl 1 w.nm, I w.nt.s, I w.nt.k, SB w.nt.p, I w.nt.w, I w.nt.e, I w.nt.n]
def Rq.zero : Rq := ⟨0, 0, 0, 0, 0, 0, [], [], []⟩
def Nt.zero : Nt := ⟨0, 0, [], 0, 0, 0⟩
/-- A word of that kind. -/
def wdZ (c v k : Int) : Wd := ⟨c, v, k, 0, 0, 0, 0, .zero, 0, [], false, 0, [], [], [], 0, 0, 0, [], .zero⟩
def hBx (c : Cl) (X Y : V) : List V := [.p (I c.id), .p (I c.sv), .p (I c.ph), .p (I c.ss), .p (I c.se), .p (I c.sn), .p (I c.xi), .p (I c.wt), .p (I c.rd), X, Y]
/-- What stands behind the pointer: the client, its notes, no results yet. -/
abbrev hW (c : Cl) : List Blk := [.box 78 (hBx c (.row 1025) (.nil 36)), .row 45 6 (nts c.nt)]
def seeC (c : Cl) (e n : Int) : Cl := if 0 < zcmp e n c.se c.sn then { c with se := e, sn := n } else c
theorem see_con (c : Cl) (e n : Int) : Con Try.prog 57 [.ptr 1024 0, .p (.agg [I e, I n])] (hW c) (.ret (.tup []) [] (hW (seeC c e n))) := by
  have c1 := cmp_con e n c.se c.sn
  unfold hW hBx seeC
  by_cases h : 0 < zcmp e n c.se c.sn
  · rw [if_pos h]
    generalize zcmp e n c.se c.sn = z at *
    refine wBodyG Try.tab Try.mixed Try.func57 rfl rfl Try.ntmps57 (by simp) (by simp) fun Q hr hn hp => ?_
    repeat' first | (refine hK _ ?_; clear hK) | (refine hK _ _ ?_; clear hK) | (clear hK; refine hK _ ?_; clear hK) | (clear hK; clear hK; refine hK _ ?_; clear hK) | (clear hK; clear hK; clear hK; refine hK _ ?_; clear hK) | (clear hK; clear hK; clear hK; clear hK; refine hK _ ?_; clear hK) | (refine wSeq fun K hK => ?_) | ((first | refine wReg ?_ | refine wDrwQ rfl (by kernel_rfl) ?_ | refine wDrwI ?_ | refine wDrw (by kernel_rfl) ?_); simp only [List.map_cons, List.map_nil, strip]) | ((first | refine wIs fun K hK => ?_ | refine wOs fun K hK => ?_ | refine wQs fun K hK => ?_ | refine CallK_plain ?_ | refine CallQ_plain ?_ | refine CallR_plain ?_ | refine wCond ?_); simp [h]) | (refine wIn ?_; refine And.intro (by kernel_rfl) ?_; try simp only [thenA_n]) | (first | refine wBlock ?_ | refine wScope ?_) | ((first | refine wRet ?_ | refine wExit ?_ | refine wSkip ?_); try simp) | ((first | refine wLabel ?_ | refine wOn ?_ | refine wQn ?_); try simp only [thenA_n]) | (refine CallE.pure (c1) rfl ?_) | (refine CallE.lent (c1) rfl ?_) | (refine CallF.pure (c1) rfl ?_) | (refine CallF.lent (c1) rfl ?_) | (refine CallE.own (c1) ?_) | (refine CallH.pure (c1) rfl ?_) | (refine CallH.lent (c1) rfl ?_) | (refine CallH.own (c1) ?_)
    all_goals first | apply hn | apply hr
    all_goals refine ⟨[], by simp, by simp, ?_⟩
    all_goals simp [Try.f57, outR, outB, renB, gaN]
  · rw [if_neg h]
    generalize zcmp e n c.se c.sn = z at *
    refine wBodyG Try.tab Try.mixed Try.func57 rfl rfl Try.ntmps57 (by simp) (by simp) fun Q hr hn hp => ?_
    repeat' first | (refine hK _ ?_; clear hK) | (refine hK _ _ ?_; clear hK) | (clear hK; refine hK _ ?_; clear hK) | (clear hK; clear hK; refine hK _ ?_; clear hK) | (clear hK; clear hK; clear hK; refine hK _ ?_; clear hK) | (clear hK; clear hK; clear hK; clear hK; refine hK _ ?_; clear hK) | (refine wSeq fun K hK => ?_) | ((first | refine wReg ?_ | refine wDrwQ rfl (by kernel_rfl) ?_ | refine wDrwI ?_ | refine wDrw (by kernel_rfl) ?_); simp only [List.map_cons, List.map_nil, strip]) | ((first | refine wIs fun K hK => ?_ | refine wOs fun K hK => ?_ | refine wQs fun K hK => ?_ | refine CallK_plain ?_ | refine CallQ_plain ?_ | refine CallR_plain ?_ | refine wCond ?_); simp [h]) | (refine wIn ?_; refine And.intro (by kernel_rfl) ?_; try simp only [thenA_n]) | (first | refine wBlock ?_ | refine wScope ?_) | ((first | refine wRet ?_ | refine wExit ?_ | refine wSkip ?_); try simp) | ((first | refine wLabel ?_ | refine wOn ?_ | refine wQn ?_); try simp only [thenA_n]) | (refine CallE.pure (c1) rfl ?_) | (refine CallE.lent (c1) rfl ?_) | (refine CallF.pure (c1) rfl ?_) | (refine CallF.lent (c1) rfl ?_) | (refine CallE.own (c1) ?_) | (refine CallH.pure (c1) rfl ?_) | (refine CallH.lent (c1) rfl ?_) | (refine CallH.own (c1) ?_)
    all_goals first | apply hn | apply hr
    all_goals refine ⟨[], by simp, by simp, ?_⟩
    all_goals simp [Try.f57, outR, outB, renB, gaN]
theorem word_con (c : Cl) (k : Int) : Con Try.prog 31 [.ptr 1024 0, .p (I k)] (hW c) (.ret (.p (.agg (wdZ c.id c.sv k).cells)) [] (hW c)) := by
  unfold hW hBx wdZ Wd.cells Rq.zero Nt.zero
  dsimp only
  refine wBodyG Try.tab Try.mixed Try.func31 rfl rfl Try.ntmps31 (by simp) (by simp) fun Q hr hn hp => ?_
  repeat' first | (refine hK _ ?_; clear hK) | (refine hK _ _ ?_; clear hK) | (clear hK; refine hK _ ?_; clear hK) | (clear hK; clear hK; refine hK _ ?_; clear hK) | (clear hK; clear hK; clear hK; refine hK _ ?_; clear hK) | (clear hK; clear hK; clear hK; clear hK; refine hK _ ?_; clear hK) | (refine wSeq fun K hK => ?_) | ((first | refine wReg ?_ | refine wDrwQ rfl (by kernel_rfl) ?_ | refine wDrwI ?_ | refine wDrw (by kernel_rfl) ?_); simp only [List.map_cons, List.map_nil, strip]) | ((first | refine wIs fun K hK => ?_ | refine wOs fun K hK => ?_ | refine wQs fun K hK => ?_ | refine CallK_plain ?_ | refine CallQ_plain ?_ | refine CallR_plain ?_ | refine wCond ?_); simp) | (refine wIn ?_; refine And.intro (by kernel_rfl) ?_; try simp only [thenA_n]) | (first | refine wBlock ?_ | refine wScope ?_) | ((first | refine wRet ?_ | refine wExit ?_ | refine wSkip ?_); try simp) | ((first | refine wLabel ?_ | refine wOn ?_ | refine wQn ?_); try simp only [thenA_n])
  all_goals first | apply hn | apply hr
  all_goals refine ⟨[], by simp, by simp, ?_⟩
  all_goals simp [Try.f31, outR, outB, renB, gaN, show ByteArray.empty = bs [] from rfl]
def waitE (c : Cl) : Int := if c.ph = 2 then (if c.wt = 0 then 0 else 14) else 9
def waitC (c : Cl) (k : Int) : Cl := if waitE c = 0 then { c with xi := c.xi + 1, wt := c.xi + 1, rd := k } else c
theorem wait_con (c : Cl) (k : Int) (hx : c.xi ≤ 1000000000 ∧ 0 ≤ c.xi) : Con Try.prog 34 [.ptr 1024 0, .p (I k)] (hW c) (.ret (.p (I (waitE c))) [] (hW (waitC c k))) := by
  unfold waitC waitE
  have hw : IntKind.i64.wrap (c.xi + 1) = c.xi + 1 := by rw [wrap_id] <;> omega
  by_cases h1 : c.ph = 2
  · by_cases h2 : c.wt = 0
    · rw [if_pos h1, if_pos h2, if_pos rfl]
      unfold hW hBx
      refine wBodyG Try.tab Try.mixed Try.func34 rfl rfl Try.ntmps34 (by simp) (by simp) fun Q hr hn hp => ?_
      repeat' first | (refine hK _ ?_; clear hK) | (refine hK _ _ ?_; clear hK) | (clear hK; refine hK _ ?_; clear hK) | (clear hK; clear hK; refine hK _ ?_; clear hK) | (clear hK; clear hK; clear hK; refine hK _ ?_; clear hK) | (clear hK; clear hK; clear hK; clear hK; refine hK _ ?_; clear hK) | (refine wSeq fun K hK => ?_) | ((first | refine wReg ?_ | refine wDrwQ rfl (by kernel_rfl) ?_ | refine wDrwI ?_ | refine wDrw (by kernel_rfl) ?_); simp only [List.map_cons, List.map_nil, strip]) | ((first | refine wIs fun K hK => ?_ | refine wOs fun K hK => ?_ | refine wQs fun K hK => ?_ | refine CallK_plain ?_ | refine CallQ_plain ?_ | refine CallR_plain ?_ | refine wCond ?_); simp [h1, h2, hw]) | (refine wIn ?_; refine And.intro (by kernel_rfl) ?_; try simp only [thenA_n]) | (first | refine wBlock ?_ | refine wScope ?_) | ((first | refine wRet ?_ | refine wExit ?_ | refine wSkip ?_); try simp) | ((first | refine wLabel ?_ | refine wOn ?_ | refine wQn ?_); try simp only [thenA_n])
      all_goals first | apply hn | apply hr
      all_goals refine ⟨[], by simp, by simp, ?_⟩
      all_goals simp [Try.f34, outR, outB, renB, gaN, hw, h1]
    · rw [if_pos h1, if_neg h2, if_neg (by decide)]
      unfold hW hBx
      refine wBodyG Try.tab Try.mixed Try.func34 rfl rfl Try.ntmps34 (by simp) (by simp) fun Q hr hn hp => ?_
      repeat' first | (refine hK _ ?_; clear hK) | (refine hK _ _ ?_; clear hK) | (clear hK; refine hK _ ?_; clear hK) | (clear hK; clear hK; refine hK _ ?_; clear hK) | (clear hK; clear hK; clear hK; refine hK _ ?_; clear hK) | (clear hK; clear hK; clear hK; clear hK; refine hK _ ?_; clear hK) | (refine wSeq fun K hK => ?_) | ((first | refine wReg ?_ | refine wDrwQ rfl (by kernel_rfl) ?_ | refine wDrwI ?_ | refine wDrw (by kernel_rfl) ?_); simp only [List.map_cons, List.map_nil, strip]) | ((first | refine wIs fun K hK => ?_ | refine wOs fun K hK => ?_ | refine wQs fun K hK => ?_ | refine CallK_plain ?_ | refine CallQ_plain ?_ | refine CallR_plain ?_ | refine wCond ?_); simp [h1, h2, hw]) | (refine wIn ?_; refine And.intro (by kernel_rfl) ?_; try simp only [thenA_n]) | (first | refine wBlock ?_ | refine wScope ?_) | ((first | refine wRet ?_ | refine wExit ?_ | refine wSkip ?_); try simp) | ((first | refine wLabel ?_ | refine wOn ?_ | refine wQn ?_); try simp only [thenA_n])
      all_goals first | apply hn | apply hr
      all_goals refine ⟨[], by simp, by simp, ?_⟩
      all_goals simp [Try.f34, outR, outB, renB, gaN, hw, h1]
  · rw [if_neg h1, if_neg (by decide)]
    unfold hW hBx
    refine wBodyG Try.tab Try.mixed Try.func34 rfl rfl Try.ntmps34 (by simp) (by simp) fun Q hr hn hp => ?_
    repeat' first | (refine hK _ ?_; clear hK) | (refine hK _ _ ?_; clear hK) | (clear hK; refine hK _ ?_; clear hK) | (clear hK; clear hK; refine hK _ ?_; clear hK) | (clear hK; clear hK; clear hK; refine hK _ ?_; clear hK) | (clear hK; clear hK; clear hK; clear hK; refine hK _ ?_; clear hK) | (refine wSeq fun K hK => ?_) | ((first | refine wReg ?_ | refine wDrwQ rfl (by kernel_rfl) ?_ | refine wDrwI ?_ | refine wDrw (by kernel_rfl) ?_); simp only [List.map_cons, List.map_nil, strip]) | ((first | refine wIs fun K hK => ?_ | refine wOs fun K hK => ?_ | refine wQs fun K hK => ?_ | refine CallK_plain ?_ | refine CallQ_plain ?_ | refine CallR_plain ?_ | refine wCond ?_); simp [h1, hw]) | (refine wIn ?_; refine And.intro (by kernel_rfl) ?_; try simp only [thenA_n]) | (first | refine wBlock ?_ | refine wScope ?_) | ((first | refine wRet ?_ | refine wExit ?_ | refine wSkip ?_); try simp) | ((first | refine wLabel ?_ | refine wOn ?_ | refine wQn ?_); try simp only [thenA_n])
    all_goals first | apply hn | apply hr
    all_goals refine ⟨[], by simp, by simp, ?_⟩
    all_goals simp [Try.f34, outR, outB, renB, gaN, hw]
/-- What waits ends. -/
def endC (c : Cl) : Cl := { c with wt := 0, rd := 0 }
/-- A result: whose, which request, whether nobody knows, the word. -/
def rsC (i x : Int) (u : Bool) (w : Wd) : List PV := I i :: I x :: B u :: w.cells
theorem end0_con (c : Cl) (h : c.wt = 0) : Con Try.prog 30 [.ptr 1024 0] (hW c) (.ret (.tup []) [] (hW (endC c))) := by
  unfold hW hBx endC
  refine wBodyG Try.tab Try.mixed Try.func30 rfl rfl Try.ntmps30 (by simp) (by simp) fun Q hr hn hp => ?_
  repeat' first | (refine hK _ ?_; clear hK) | (refine hK _ _ ?_; clear hK) | (clear hK; refine hK _ ?_; clear hK) | (clear hK; clear hK; refine hK _ ?_; clear hK) | (clear hK; clear hK; clear hK; refine hK _ ?_; clear hK) | (clear hK; clear hK; clear hK; clear hK; refine hK _ ?_; clear hK) | (refine wSeq fun K hK => ?_) | ((first | refine wReg ?_ | refine wDrwQ rfl (by kernel_rfl) ?_ | refine wDrwI ?_ | refine wDrw (by kernel_rfl) ?_); simp only [List.map_cons, List.map_nil, strip]) | ((first | refine wIs fun K hK => ?_ | refine wOs fun K hK => ?_ | refine wQs fun K hK => ?_ | refine CallK_plain ?_ | refine CallQ_plain ?_ | refine CallR_plain ?_ | refine wCond ?_); simp [h]) | (refine wIn ?_; refine And.intro (by kernel_rfl) ?_; try simp only [thenA_n]) | (first | refine wBlock ?_ | refine wScope ?_) | ((first | refine wRet ?_ | refine wExit ?_ | refine wSkip ?_); try simp) | ((first | refine wLabel ?_ | refine wOn ?_ | refine wQn ?_); try simp only [thenA_n])
  all_goals first | apply hn | apply hr
  all_goals refine ⟨[], by simp, by simp, ?_⟩
  all_goals simp [Try.f30, outR, outB, renB, gaN]
/-- What stands there with one result. -/
abbrev hW1 (c : Cl) : List Blk := [.box 78 (hBx c (.row 1025) (.row 2048)), .row 45 6 (nts c.nt)]
theorem end1_con (c : Cl) (h : ¬ c.wt = 0) : Con Try.prog 30 [.ptr 1024 0] (hW c) (.ret (.tup []) [.row 59 36 [rsC c.id c.wt true (wdZ 0 0 0)]] (hW1 (endC c))) := by
  unfold hW hW1 hBx endC rsC wdZ Wd.cells Rq.zero Nt.zero
  dsimp only
  refine wBodyG Try.tab Try.mixed Try.func30 rfl rfl Try.ntmps30 (by simp) (by simp) fun Q hr hn hp => ?_
  repeat' first | (refine And.intro (by omega) (Or.inl ?_)) | (refine And.intro (by omega) ?_) | (refine hK _ ?_; clear hK) | (refine hK _ _ ?_; clear hK) | (clear hK; refine hK _ ?_; clear hK) | (clear hK; clear hK; refine hK _ ?_; clear hK) | (clear hK; clear hK; clear hK; refine hK _ ?_; clear hK) | (clear hK; clear hK; clear hK; clear hK; refine hK _ ?_; clear hK) | (refine wSeq fun K hK => ?_) | ((first | refine wReg ?_ | refine wDrwQ rfl (by kernel_rfl) ?_ | refine wDrwI ?_ | refine wDrw (by kernel_rfl) ?_); simp only [List.map_cons, List.map_nil, strip]) | ((first | refine wIs fun K hK => ?_ | refine wOs fun K hK => ?_ | refine wQs fun K hK => ?_ | refine CallK_plain ?_ | refine CallQ_plain ?_ | refine CallR_plain ?_ | refine wCond ?_); simp [h, show ByteArray.empty = bs [] from rfl]) | (refine wIn ?_; refine And.intro (by kernel_rfl) ?_; try simp only [thenA_n]) | (first | refine wBlock ?_ | refine wScope ?_) | ((first | refine wRet ?_ | refine wExit ?_ | refine wSkip ?_); try simp) | ((first | refine wLabel ?_ | refine wOn ?_ | refine wQn ?_); try simp only [thenA_n])
  all_goals first | apply hn | apply hr
  all_goals refine ⟨[25], by simp, by simp, ?_⟩
  all_goals simp [Try.f30, outR, outB, renB, gaN, show ByteArray.empty = bs [] from rfl]
theorem cloneNt_con (l : List (List PV)) (hl : l.length ≤ 1000000) : RCon 47 [.p (.sl 6 l)] 45 6 l := by
  refine wBodyR Try.tab Try.mixed Try.func47 rfl rfl Try.ntmps47 rfl (by simp) (by simp) fun Q hr hn => ?_
  repeat' first | (refine wRetG [.row 2 45 6] ?_) | (refine And.intro (by omega) (Or.inl ?_)) | (refine And.intro ?_ (fun hnil => ?_)) | (refine hK _ ?_; clear hK) | (refine hK _ _ ?_; clear hK) | (clear hK; refine hK _ ?_; clear hK) | (clear hK; clear hK; refine hK _ ?_; clear hK) | (clear hK; clear hK; clear hK; refine hK _ ?_; clear hK) | (clear hK; clear hK; clear hK; clear hK; refine hK _ ?_; clear hK) | (refine wSeq fun K hK => ?_) | ((first | refine wReg ?_ | refine wDrwQ rfl (by kernel_rfl) ?_ | refine wDrwI ?_ | refine wDrw (by kernel_rfl) ?_); simp only [List.map_cons, List.map_nil, strip]) | ((first | refine wIs fun K hK => ?_ | refine wOs fun K hK => ?_ | refine wQs fun K hK => ?_ | refine CallK_plain ?_ | refine CallQ_plain ?_ | refine CallR_plain ?_ | refine wCond ?_); simp) | (refine wIn ?_; refine And.intro (by kernel_rfl) ?_; try simp only [thenA_n]) | (first | refine wBlock ?_ | refine wScope ?_) | ((first | refine wRet ?_ | refine wExit ?_ | refine wSkip ?_); try simp) | ((first | refine wLabel ?_ | refine wOn ?_ | refine wQn ?_); try simp only [thenA_n])
  · refine hr _ 7 (by simp) (by simp) (by omega)
  · subst hnil
    simp only [thenA_r]
    refine hr _ 2 (by simp) (by simp) (by omega)
theorem hearing_con (c : Cl) (hn : c.nt.length ≤ 1000000) : Con Try.prog 29 [.p (.agg c.cells)] [] (.ret (.ptr 2048 0) [.box 78 (hBx c (.row 2049) (.nil 36)), .row 45 6 (nts c.nt)] []) := by
  have c1 := cloneNt_con (nts c.nt) (by simpa using hn)
  unfold hBx Cl.cells
  refine wBodyG Try.tab Try.mixed Try.func29 rfl rfl Try.ntmps29 (by simp) (by simp) fun Q hr hn hp => ?_
  repeat' first | (refine hK _ ?_; clear hK) | (refine hK _ _ ?_; clear hK) | (clear hK; refine hK _ ?_; clear hK) | (clear hK; clear hK; refine hK _ ?_; clear hK) | (clear hK; clear hK; clear hK; refine hK _ ?_; clear hK) | (clear hK; clear hK; clear hK; clear hK; refine hK _ ?_; clear hK) | (refine wSeq fun K hK => ?_) | ((first | refine wReg ?_ | refine wDrwQ rfl (by kernel_rfl) ?_ | refine wDrwI ?_ | refine wDrw (by kernel_rfl) ?_); simp only [List.map_cons, List.map_nil, strip]) | ((first | refine wIs fun K hK => ?_ | refine wOs fun K hK => ?_ | refine wQs fun K hK => ?_ | refine CallK_plain ?_ | refine CallQ_plain ?_ | refine CallR_plain ?_ | refine wCond ?_); simp) | (refine wIn ?_; refine And.intro (by kernel_rfl) ?_; try simp only [thenA_n]) | (first | refine wBlock ?_ | refine wScope ?_) | ((first | refine wRet ?_ | refine wExit ?_ | refine wSkip ?_); try simp) | ((first | refine wLabel ?_ | refine wOn ?_ | refine wQn ?_); try simp only [thenA_n]) | (refine CallE.pure (c1) rfl ?_) | (refine CallE.lent (c1) rfl ?_) | (refine CallF.pure (c1) rfl ?_) | (refine CallF.lent (c1) rfl ?_) | (refine CallE.own (c1) ?_) | (refine CallH.pure (c1) rfl ?_) | (refine CallH.lent (c1) rfl ?_) | (refine CallH.own (c1) ?_)
  all_goals first | apply hn | apply hr
  all_goals refine ⟨[9, 5], by simp, by simp, ?_⟩
  all_goals simp [Try.f29, outR, outB, renB, gaN]
end Go.Proofs.Ytefhnofdfnmiaaa
/- Bytes; numbers as bytes: the arithmetic. -/
namespace Go.Proofs.Ytefhnofdfnmiaaa
set_option linter.unusedSimpArgs false
set_option linter.unusedVariables false
open Go Go.Av
/-! ### Rows of bytes -/
def dcell (b : UInt8) : List PV := [.v (.int .u8 b.toNat)]
def by8 (l : List UInt8) : List (List PV) := l.map dcell
@[simp] theorem by8_len (l : List UInt8) : (by8 l).length = l.length := by simp [by8]
@[simp] theorem by8_getElem (l : List UInt8) (k : Nat) (h : k < (by8 l).length) : (by8 l)[k] = [.v (.int .u8 (l[k]'(by simpa using h)).toNat)] := by simp [by8, dcell]
theorem by8_app (a b : List UInt8) : by8 a ++ by8 b = by8 (a ++ b) := by simp [by8]
theorem by8_snoc (l : List UInt8) (b : UInt8) (n : Int) (h : n = b.toNat) : by8 l ++ [[.v (.int .u8 n)]] = by8 (l ++ [b]) := by subst h; simp [by8, dcell]
theorem unL_by8 : ∀ l : List UInt8, unL (by8 l) = some (l.map fun b => (b.toNat : Int))
  | [] => rfl
  | b :: l => by
    show (match unL (by8 l) with | some ns => some ((b.toNat : Int) :: ns) | none => none) = _
    rw [unL_by8 l]; rfl
theorem push_bs (a : List UInt8) (b : UInt8) : (bs a).push (UInt8.ofNat (b.toNat : Int).toNat) = bs (a ++ [b]) := by
  have : UInt8.ofNat (b.toNat : Int).toNat = b := by simp
  rw [this]
  apply ByteArray.ext
  show a.toArray.push b = (a ++ [b]).toArray
  rw [List.push_toArray]
theorem strOf_by8 (l : List UInt8) : strOf (l.map fun b => (b.toNat : Int)) = bs l := by
  have key : ∀ (l a : List UInt8), (l.map fun b => (b.toNat : Int)).foldl (fun r n => r.push (UInt8.ofNat n.toNat)) (bs a) = bs (a ++ l) := by
    intro l
    induction l with
    | nil => intro a; rw [List.append_nil]; rfl
    | cons b l ih =>
      intro a
      rw [List.map_cons, List.foldl_cons, push_bs, ih, List.append_assoc]; rfl
  exact key l []
/-! ### The numbers' arithmetic -/
def okI (n : Int) : Prop := -9223372036854775808 ≤ n ∧ n ≤ 9223372036854775807
theorem u64_wrap (a : Int) : IntKind.u64.wrap a = a % 18446744073709551616 := by simp [IntKind.wrap, IntKind.bits, IntKind.signed]
theorem u8_wrap (a : Int) : IntKind.u8.wrap a = a % 256 := by simp [IntKind.wrap, IntKind.bits, IntKind.signed]
theorem ofInt_nat (w : Nat) (n : Nat) : BitVec.ofInt w (n : Int) = BitVec.ofNat w n := by simp
/-- The number by its distance from nothing, the sign lowest. -/
def zz (n : Int) : Nat := if n < 0 then (-2 * n - 1).toNat else (2 * n).toNat
theorem zz_lt {n : Int} (h : okI n) : zz n < 18446744073709551616 := by unfold zz okI at *; split <;> omega
def unzz (u : Nat) : Int := if u % 2 = 1 then -((u / 2 : Nat) : Int) - 1 else ((u / 2 : Nat) : Int)
theorem unzz_ok {u : Nat} (h : u < 18446744073709551616) : okI (unzz u) := by unfold unzz okI; split <;> omega
theorem zz_unzz (u : Nat) : zz (unzz u) = u := by
  unfold zz unzz
  split <;> rename_i h <;> split <;> omega
theorem xor_ones (x : Nat) (h : x < 18446744073709551616) : (BitVec.ofNat 64 x ^^^ BitVec.ofNat 64 18446744073709551615).toNat = 18446744073709551615 - x := by
  have e : BitVec.ofNat 64 18446744073709551615 = BitVec.allOnes 64 := by decide
  rw [e, BitVec.xor_allOnes, BitVec.toNat_not, BitVec.toNat_ofNat, Nat.mod_eq_of_lt (by omega)]
/-- A number's bytes, seven bits each, the lowest first. -/
def enc (u : Nat) : List UInt8 := if u < 128 then [UInt8.ofNat u] else UInt8.ofNat (u % 128 + 128) :: enc (u / 128)
termination_by u
decreasing_by omega
theorem enc_small {u : Nat} (h : u < 128) : enc u = [UInt8.ofNat u] := by rw [enc, if_pos h]
theorem enc_big {u : Nat} (h : ¬ u < 128) : enc u = UInt8.ofNat (u % 128 + 128) :: enc (u / 128) := by rw [enc, if_neg h]
theorem or128 (x : Nat) (h : x < 256) : (BitVec.ofNat 8 x ||| BitVec.ofNat 8 128).toNat = x % 128 + 128 := by
  have : ∀ x : Fin 256, (BitVec.ofNat 8 x.val ||| BitVec.ofNat 8 128).toNat = x.val % 128 + 128 := by decide +kernel
  exact this ⟨x, h⟩
theorem and127_64 (x : Nat) : (BitVec.ofNat 64 x &&& BitVec.ofNat 64 127).toNat = x % 128 := by
  rw [BitVec.toNat_and, BitVec.toNat_ofNat, BitVec.toNat_ofNat, show 127 % 2 ^ 64 = 2 ^ 7 - 1 from rfl, Nat.and_two_pow_sub_one_eq_mod]
  omega
theorem u8_toNat (x : Nat) (h : x < 256) : (UInt8.ofNat x).toNat = x := by rw [UInt8.toNat_ofNat']; omega
theorem enc_len : ∀ (k u : Nat), u < 128 ^ (k + 1) → (enc u).length ≤ k + 1
  | 0, u, h => by rw [enc_small (by simpa using h)]; simp
  | k + 1, u, h => by
    by_cases hu : u < 128
    · rw [enc_small hu]; simp
    · rw [enc_big hu]
      have := enc_len k (u / 128) (by rw [Nat.div_lt_iff_lt_mul (by omega), ← Nat.pow_succ]; exact h)
      simp; omega
theorem enc_len10 {u : Nat} (h : u < 18446744073709551616) : (enc u).length ≤ 10 := enc_len 9 u (Nat.lt_of_lt_of_le h (by decide))
theorem enc_pos (u : Nat) : 1 ≤ (enc u).length := by rw [enc]; split <;> simp
end Go.Proofs.Ytefhnofdfnmiaaa
/- Numbers laid as bytes: the program's, the document's. -/
namespace Go.Proofs.Ytefhnofdfnmiaaa
set_option linter.unusedSimpArgs false
set_option linter.unusedVariables false
open Go Go.Av
attribute [local simp] Try.T1 Try.T2 Try.T3 Try.T4 Try.T5 Try.T9 Try.T12 Try.T15 Try.T16 Try.T17 Try.T21 Try.T22 Try.T23 Try.T24 Try.T26 Try.T27 Try.T29 Try.T30 Try.T32 Try.T33 Try.T34 Try.T35 Try.T36 Try.T38 Try.T40 Try.T42 Try.T43 Try.T45 Try.T47 Try.T49 Try.T50 Try.T51 Try.T53 Try.T54 Try.T55 Try.T56 Try.T57 Try.T59 Try.T61 Try.T63 Try.T65 Try.T66 Try.T67 Try.T69 Try.T70 Try.T71 Try.T72 Try.T73 Try.T74 Try.T75 Try.T76 Try.T78 Try.T79 Try.T80 Try.T81 Try.T82 Try.T83 Try.T84 Try.T85 Try.T86 Try.T87 Try.T88 Try.T89 Try.T90 Try.T91 Try.T92 Try.T93 Try.T94 Try.T95 Try.T96 Try.T97 Try.T98 Try.T99 Try.T101 Try.T102 Try.T103 Try.T104 Try.T105 Try.T106 Try.T107 Try.T108 Try.T109 Try.T112 Try.T115 Try.T116 Try.T119 Try.T120
attribute [local irreducible] Go.Av.CallK Go.Av.CallE Go.Av.CallQ Go.Av.CallF Go.Av.CallR Go.Av.CallH Go.Av.Con
abbrev BCon (g : FuncId) (args : List V) (l : List UInt8) : Prop := Con Try.prog g args [] (.ret (.row 2048) [.row 5 1 (by8 l)] [])
theorem or_fact (u : Nat) (h : u < 18446744073709551616) : IntKind.u8.wrap ((BitVec.ofInt IntKind.u8.bits (IntKind.u8.wrap (u : Int)) ||| BitVec.ofInt IntKind.u8.bits 128).toNat : Int) = ((UInt8.ofNat (u % 128 + 128)).toNat : Int) := by
  have e1 : IntKind.u8.wrap (u : Int) = ((u % 256 : Nat) : Int) := by rw [u8_wrap]; omega
  rw [e1]
  show IntKind.u8.wrap ((BitVec.ofInt 8 ((u % 256 : Nat) : Int) ||| BitVec.ofNat 8 128).toNat : Int) = _
  rw [ofInt_nat]
  have := or128 (u % 256) (by omega)
  rw [this, u8_toNat _ (by omega), u8_wrap]
  omega
theorem shr7 (u : Nat) : (u : Int).fdiv (2 ^ min 7 IntKind.u64.bits) = ((u / 128 : Nat) : Int) := by
  show (u : Int).fdiv 128 = _
  rw [Int.fdiv_eq_ediv_of_nonneg _ (by omega)]; omega
theorem u8_small (u : Nat) (h : u < 128) : IntKind.u8.wrap (u : Int) = ((UInt8.ofNat u).toNat : Int) := by rw [u8_wrap, u8_toNat _ (by omega)]; omega
theorem and_fact (u : Nat) (h : u < 18446744073709551616) : IntKind.u64.wrap ((BitVec.ofInt IntKind.u64.bits (u : Int) &&& BitVec.ofInt IntKind.u64.bits 127).toNat : Int) = ((u % 128 : Nat) : Int) := by
  show IntKind.u64.wrap ((BitVec.ofInt 64 (u : Int) &&& BitVec.ofNat 64 127).toNat : Int) = _
  rw [ofInt_nat, and127_64, u64_wrap]; omega
theorem or_fact2 (x : Nat) (h : x < 128) : IntKind.u8.wrap ((BitVec.ofInt IntKind.u8.bits (IntKind.u8.wrap (x : Int)) ||| BitVec.ofInt IntKind.u8.bits 128).toNat : Int) = ((UInt8.ofNat (x + 128)).toNat : Int) := by
  have := or_fact x (by omega)
  rw [this, Nat.mod_eq_of_lt h]
theorem not64 (u : Nat) (h : u < 18446744073709551616) : IntKind.u64.wrap ((BitVec.ofInt IntKind.u64.bits (if IntKind.u64.signed = true then -1 else IntKind.u64.max) ^^^ BitVec.ofInt IntKind.u64.bits (u : Int)).toNat : Int) = ((18446744073709551615 - u : Nat) : Int) := by
  show IntKind.u64.wrap ((BitVec.ofInt 64 ((18446744073709551615 : Nat) : Int) ^^^ BitVec.ofInt 64 (u : Int)).toNat : Int) = _
  rw [ofInt_nat, ofInt_nat, BitVec.xor_comm, xor_ones u h, u64_wrap]; omega
theorem shl1 (n : Int) (hn : okI n) : IntKind.u64.wrap (IntKind.u64.wrap n * 2 ^ min 1 IntKind.u64.bits) = ((2 * n % 18446744073709551616).toNat : Int) := by
  obtain ⟨h0, h1⟩ := hn
  show IntKind.u64.wrap (IntKind.u64.wrap n * 2) = _
  rw [u64_wrap, u64_wrap]; omega
theorem putInt01_con (b : List UInt8) (n : Int) (hn : okI n) (h : b.length ≤ 1000000000000) : BCon 42 [.p (.sl 1 (by8 b)), .p (I n)] (b ++ enc (zz n)) := by
  have hlt := zz_lt hn
  have h1 := shl1 n hn
  have hzz : zz n = if n < 0 then 18446744073709551615 - (2 * n % 18446744073709551616).toNat else (2 * n % 18446744073709551616).toNat := by
    obtain ⟨h0, h1⟩ := hn
    unfold zz
    split <;> omega
  have hm : (2 * n % 18446744073709551616).toNat < 18446744073709551616 := by omega
  generalize (2 * n % 18446744073709551616).toNat = y at h1 hzz hm
  have h2 := not64 y hm
  generalize zz n = z at hlt hzz ⊢
  simp at h1 h2
  refine wBodyR Try.tab Try.mixed Try.func42 rfl rfl Try.ntmps42 rfl (by simp) (by simp) fun Q hr hn => ?_
  by_cases o : n < 0
  all_goals first | rw [if_pos o] at hzz | rw [if_neg o] at hzz
  all_goals
    repeat' first | (refine And.intro (by omega) (Or.inl ?_)) | (refine And.intro (by omega) ?_) | (refine hK _ ?_; clear hK) | (refine hK _ _ ?_; clear hK) | (clear hK; refine hK _ ?_; clear hK) | (clear hK; clear hK; refine hK _ ?_; clear hK) | (clear hK; clear hK; clear hK; refine hK _ ?_; clear hK) | (clear hK; clear hK; clear hK; clear hK; refine hK _ ?_; clear hK) | (refine wSeq fun K hK => ?_) | ((first | refine wReg ?_ | refine wDrwQ rfl (by kernel_rfl) ?_ | refine wDrwI ?_ | refine wDrw (by kernel_rfl) ?_); simp only [List.map_cons, List.map_nil, strip]) | ((first | refine wIs fun K hK => ?_ | refine wOs fun K hK => ?_ | refine wQs fun K hK => ?_ | refine CallK_plain ?_ | refine CallQ_plain ?_ | refine CallR_plain ?_ | refine wCond ?_); simp [o, h1, h2]) | (refine wIn ?_; refine And.intro (by kernel_rfl) ?_; try simp only [thenA_n]) | (first | refine wBlock ?_ | refine wScope ?_) | ((first | refine wRet ?_ | refine wExit ?_ | refine wSkip ?_); try simp) | ((first | refine wLabel ?_ | refine wOn ?_ | refine wQn ?_); try simp only [thenA_n])
    refine wLoop (fun N st => ∃ k u pre, k + N = 10 ∧ st.s 6 = .row 16 ∧ st.s 5 = .p (.v (.int .u64 (u : Nat))) ∧ st.b 16 = some (.row 5 1 (by8 (b ++ pre))) ∧ pre ++ enc u = enc z ∧ pre.length = k ∧ u * 128 ^ k < 18446744073709551616) 10 ⟨0, z, [], by simp [hzz, h1, h2]; try omega⟩ fun K N st hL ⟨k, u, pre, hk, g6, g5, b16, he, hp, hu⟩ => ?_
    have hu64 : u < 18446744073709551616 := Nat.lt_of_le_of_lt (Nat.le_mul_of_pos_right u (Nat.pow_pos (by omega))) hu
    by_cases q : u < 128
    · have q' : (u : Int) < 128 := by omega
      have q2 : ¬ 128 ≤ (u : Int) := by omega
      have hl : by8 (b ++ pre) ++ [[.v (.int .u8 (IntKind.u8.wrap (u : Int)))]] = by8 (b ++ enc z) := by
        rw [by8_snoc _ (UInt8.ofNat u) _ (u8_small u q), ← he, enc_small q, List.append_assoc]
      repeat' first | (refine And.intro (by omega) (Or.inl ?_)) | (refine And.intro (by omega) ?_) | (refine hK _ ?_; clear hK) | (refine hK _ _ ?_; clear hK) | (clear hK; refine hK _ ?_; clear hK) | (clear hK; clear hK; refine hK _ ?_; clear hK) | (clear hK; clear hK; clear hK; refine hK _ ?_; clear hK) | (clear hK; clear hK; clear hK; clear hK; refine hK _ ?_; clear hK) | (refine wSeq fun K hK => ?_) | ((first | refine wReg ?_ | refine wDrwQ rfl (by kernel_rfl) ?_ | refine wDrwI ?_ | refine wDrw (by kernel_rfl) ?_); simp only [List.map_cons, List.map_nil, strip]) | ((first | refine wIs fun K hK => ?_ | refine wOs fun K hK => ?_ | refine wQs fun K hK => ?_ | refine CallK_plain ?_ | refine CallQ_plain ?_ | refine CallR_plain ?_ | refine wCond ?_); simp [g5, g6, b16, q, q', q2]) | (refine wIn ?_; refine And.intro (by kernel_rfl) ?_; try simp only [thenA_n]) | (first | refine wBlock ?_ | refine wScope ?_) | ((first | refine wRet ?_ | refine wExit ?_ | refine wSkip ?_); try simp) | ((first | refine wLabel ?_ | refine wOn ?_ | refine wQn ?_); try simp only [thenA_n])
      all_goals refine hr _ 16 ?_ ?_ (by omega)
      all_goals simp [Try.f42, hl]
    · have q' : ¬ (u : Int) < 128 := by omega
      have q2 : 128 ≤ (u : Int) := by omega
      have hk10 : k < 10 := by
        refine Nat.lt_of_not_le fun hge => ?_
        have : k = 10 := by omega
        subst this
        omega
      have ha := and_fact u hu64
      have hor := or_fact2 (u % 128) (by omega)
      have hb := enc_big q
      generalize UInt8.ofNat (u % 128 + 128) = c at hor hb
      simp at ha hor
      have hsh := shr7 u
      simp at hsh
      have hx := by8_snoc (b ++ pre) c _ rfl
      rw [List.append_assoc] at hx
      repeat' first | (refine And.intro (by omega) (Or.inl ?_)) | (refine And.intro (by omega) ?_) | (refine hK _ ?_; clear hK) | (refine hK _ _ ?_; clear hK) | (clear hK; refine hK _ ?_; clear hK) | (clear hK; clear hK; refine hK _ ?_; clear hK) | (clear hK; clear hK; clear hK; refine hK _ ?_; clear hK) | (clear hK; clear hK; clear hK; clear hK; refine hK _ ?_; clear hK) | (refine wSeq fun K hK => ?_) | ((first | refine wReg ?_ | refine wDrwQ rfl (by kernel_rfl) ?_ | refine wDrwI ?_ | refine wDrw (by kernel_rfl) ?_); simp only [List.map_cons, List.map_nil, strip]) | ((first | refine wIs fun K hK => ?_ | refine wOs fun K hK => ?_ | refine wQs fun K hK => ?_ | refine CallK_plain ?_ | refine CallQ_plain ?_ | refine CallR_plain ?_ | refine wCond ?_); simp [g5, g6, b16, q, q', q2, ha, hor, hsh]) | (refine wIn ?_; refine And.intro (by kernel_rfl) ?_; try simp only [thenA_n]) | (first | refine wBlock ?_ | refine wScope ?_) | ((first | refine wRet ?_ | refine wExit ?_ | refine wSkip ?_); try simp) | ((first | refine wLabel ?_ | refine wOn ?_ | refine wQn ?_); try simp only [thenA_n])
      refine hL _ (N - 1) (by omega) ⟨k + 1, u / 128, pre ++ [c], by omega, ?_⟩
      simp [g5, g6, b16, ha, hor, hsh, hx, hp]
      refine ⟨by rw [← he, hb], Nat.lt_of_le_of_lt ?_ hu⟩
      rw [Nat.pow_succ, Nat.mul_comm (128 ^ k), ← Nat.mul_assoc]
      exact Nat.mul_le_mul_right _ (Nat.div_mul_le_self u 128)
end Go.Proofs.Ytefhnofdfnmiaaa
/- fault.Try's deferred closure. -/
namespace Go.Proofs.Ytefhnofdfnmiaaa
set_option linter.unusedSimpArgs false
set_option linter.unusedVariables false
open Go Go.Av Go.RowKit
end Go.Proofs.Ytefhnofdfnmiaaa
/- fault.Try: what gives up deep in a call comes back as an error. -/
namespace Go.Proofs.Ytefhnofdfnmiaaa
set_option maxRecDepth 8000
set_option linter.unusedSimpArgs false
set_option linter.unusedVariables false
open Go Go.Av Go.RowKit
end Go.Proofs.Ytefhnofdfnmiaaa
/- Numbers read from bytes: the program's, the document's. -/
namespace Go.Proofs.Ytefhnofdfnmiaaa
set_option linter.unusedSimpArgs false
set_option linter.unusedVariables false
open Go Go.Av
attribute [local simp] Try.T1 Try.T2 Try.T3 Try.T4 Try.T5 Try.T9 Try.T12 Try.T15 Try.T16 Try.T17 Try.T21 Try.T22 Try.T23 Try.T24 Try.T26 Try.T27 Try.T29 Try.T30 Try.T32 Try.T33 Try.T34 Try.T35 Try.T36 Try.T38 Try.T40 Try.T42 Try.T43 Try.T45 Try.T47 Try.T49 Try.T50 Try.T51 Try.T53 Try.T54 Try.T55 Try.T56 Try.T57 Try.T59 Try.T61 Try.T63 Try.T65 Try.T66 Try.T67 Try.T69 Try.T70 Try.T71 Try.T72 Try.T73 Try.T74 Try.T75 Try.T76 Try.T78 Try.T79 Try.T80 Try.T81 Try.T82 Try.T83 Try.T84 Try.T85 Try.T86 Try.T87 Try.T88 Try.T89 Try.T90 Try.T91 Try.T92 Try.T93 Try.T94 Try.T95 Try.T96 Try.T97 Try.T98 Try.T99 Try.T101 Try.T102 Try.T103 Try.T104 Try.T105 Try.T106 Try.T107 Try.T108 Try.T109 Try.T112 Try.T115 Try.T116 Try.T119 Try.T120
attribute [local irreducible] Go.Av.CallK Go.Av.CallE Go.Av.CallQ Go.Av.CallF Go.Av.CallR Go.Av.CallH Go.Av.Con
/-- What the bytes from here on say: an error, or a number, and how many bytes were read. -/
def rdU : Nat → Nat → List UInt8 → Int × Nat × Nat
  | i, _, [] => (2, 0, i)
  | i, u, c :: r =>
    if i = 9 ∧ 1 < c.toNat then (5, 0, i + 1)
    else if 128 ≤ c.toNat then rdU (i + 1) (u + c.toNat % 128 * 128 ^ i) r
    else if c.toNat = 0 ∧ 0 < i then (3, 0, i + 1)
    else (0, u + c.toNat % 128 * 128 ^ i, i + 1)
theorem step_lt {u x i : Nat} (hu : u < 128 ^ i) (hx : x < 128) : u + x * 128 ^ i < 128 ^ (i + 1) := by
  rw [Nat.pow_succ]
  have : x * 128 ^ i ≤ 127 * 128 ^ i := Nat.mul_le_mul_right _ (by omega)
  omega
theorem step_lt64 {u x i : Nat} (hu : u < 128 ^ i) (hx : x < 128) (hi : i ≤ 9) (h9 : i = 9 → x ≤ 1) : x * 128 ^ i < 18446744073709551616 ∧ u + x * 128 ^ i < 18446744073709551616 := by
  by_cases h : i = 9
  · subst h
    have := h9 rfl
    have : x * 128 ^ 9 ≤ 1 * 128 ^ 9 := Nat.mul_le_mul_right _ this
    omega
  · have h8 : 128 ^ (i + 1) ≤ 128 ^ 9 := Nat.pow_le_pow_right (by omega) (by omega)
    have := step_lt hu hx
    omega
/- Numbers read, the document's. -/
/- What is read from a place on: a number (read, its closure). -/
section
variable (b : List UInt8) (at' : Int) (X : PV)
end
/- What is read from a place on: a text (read, its closure). -/
section
variable (b : List UInt8) (at' : Int) (X : PV)
end
/- Lengths and texts read; texts laid. -/
theorem rdU_le : ∀ (l : List UInt8) (i u : Nat), u < 128 ^ i → i ≤ 9 → i ≤ (rdU i u l).2.2 ∧ (rdU i u l).2.2 ≤ i + l.length ∧ (rdU i u l).2.1 < 18446744073709551616 ∧ ((rdU i u l).1 = 0 → i < (rdU i u l).2.2)
  | [], i, u, hu, hi => by simp [rdU]
  | c :: r, i, u, hu, hi => by
    have hc := c.toNat_lt
    rw [rdU]
    split
    · simp
    · rename_i o1
      have hx9 : i = 9 → c.toNat % 128 ≤ 1 := by omega
      have hst := step_lt64 (x := c.toNat % 128) hu (by omega) hi hx9
      split
      · rename_i o2
        have := rdU_le r (i + 1) _ (step_lt (x := c.toNat % 128) hu (by omega)) (by omega)
        simp only [List.length_cons]
        refine ⟨by omega, by omega, this.2.2.1, fun h => by have := this.2.2.2 h; omega⟩
      · split
        · simp
        · simp only [List.length_cons]
          exact ⟨by omega, by omega, hst.2, fun _ => by omega⟩
/-- A length, and the place behind it: or an error. -/
def lnR (L a tail : Nat) (r : Int × Nat × Nat) : Int × Nat × Nat :=
  if ¬ r.1 = 0 then (r.1, 0, a + r.2.2)
  else if unzz r.2.1 < 0 then (3, 0, a + r.2.2)
  else if 65536 < unzz r.2.1 then (5, 0, a + r.2.2)
  else if (L : Int) - ((a + r.2.2 : Nat) : Int) < unzz r.2.1 + tail then (2, 0, a + r.2.2)
  else (0, (unzz r.2.1).toNat, a + r.2.2)
theorem lnR_ok {L a tail : Nat} {r : Int × Nat × Nat} {n q : Nat} (h : lnR L a tail r = (0, n, q)) : r.1 = 0 ∧ unzz r.2.1 = n ∧ n ≤ 65536 ∧ q = a + r.2.2 ∧ q + n + tail ≤ L := by
  unfold lnR at h
  split at h
  · rename_i o; simp only [Prod.mk.injEq] at h; exact absurd h.1 o
  · rename_i o
    have o : r.1 = 0 := by simpa using o
    split at h
    · simp at h
    · split at h
      · simp at h
      · split at h
        · simp at h
        · simp only [Prod.mk.injEq, true_and] at h
          obtain ⟨h1, h2⟩ := h
          exact ⟨o, by omega, by omega, h2.symm, by omega⟩
/- Int, Text; texts laid; the laws CodecInts, CodecTexts. -/
/- Texts laid, and read by the document. -/
end Go.Proofs.Ytefhnofdfnmiaaa
/- Formats: what is laid as bytes, and read from them. -/
namespace Go.Proofs.Ytefhnofdfnmiaaa
set_option linter.unusedSimpArgs false
set_option linter.unusedVariables false
open Go Go.Av
/-- An error and the place with it. -/
abbrev RS := Int × Int
/-- A format: how many cells; which may be; their bytes; a bound of these; what is read from a place on; what stands there if nothing is read. -/
structure Fo where
  n : Nat
  ok : List PV → Prop
  en : List PV → List UInt8
  sz : List PV → Nat
  rd : List UInt8 → RS → List PV × RS
  ze : List PV
structure FoL (f : Fo) : Prop where
  len : ∀ cs, f.ok cs → cs.length = f.n
  szl : ∀ cs, f.ok cs → (f.en cs).length ≤ f.sz cs
  zok : f.ok f.ze
  rok : ∀ b st, f.ok (f.rd b st).1
  stk : ∀ b e a, ¬ e = 0 → f.rd b (e, a) = (f.ze, e, a)
  took : ∀ b a cs k, f.rd b (0, a) = (cs, 0, k) → 0 ≤ a ∧ a ≤ k ∧ k ≤ b.length ∧ b.take a.toNat ++ f.en cs = b.take k.toNat
/-! ### Numbers -/
theorem rdU_inv : ∀ (l : List UInt8) (i u w k : Nat), rdU i u l = (0, w, k) → ∃ v, w = u + v * 128 ^ i ∧ i < k ∧ k ≤ i + l.length ∧ l.take (k - i) = enc v ∧ (0 < i → 0 < v)
  | [], i, u, w, k, h => by simp [rdU] at h
  | c :: r, i, u, w, k, h => by
    have hc := c.toNat_lt
    rw [rdU] at h
    split at h
    · simp at h
    · split at h
      · rename_i o
        obtain ⟨v, h1, h2, h3, h4, h5⟩ := rdU_inv r (i + 1) _ w k h
        have hv := h5 (by omega)
        refine ⟨c.toNat % 128 + 128 * v, ?_, by omega, by simp only [List.length_cons]; omega, ?_, fun _ => by omega⟩
        · rw [h1, Nat.pow_succ, Nat.mul_comm (128 ^ i), ← Nat.mul_assoc, Nat.add_mul, Nat.mul_comm v, Nat.add_assoc]
        · rw [show k - i = (k - (i + 1)) + 1 by omega, List.take_succ_cons, h4, enc_big (u := c.toNat % 128 + 128 * v) (by omega)]
          rw [show (c.toNat % 128 + 128 * v) % 128 = c.toNat % 128 by omega, show (c.toNat % 128 + 128 * v) / 128 = v by omega]
          congr 1
          rw [← UInt8.toNat_inj, u8_toNat _ (by omega)]; omega
      · split at h
        · simp at h
        · rename_i o1 o2 o3
          simp only [Prod.mk.injEq, true_and] at h
          obtain ⟨h1, h2⟩ := h
          refine ⟨c.toNat, by rw [← h1, Nat.mod_eq_of_lt (by omega)], by omega, by simp only [List.length_cons]; omega, ?_, fun hi => by omega⟩
          rw [show k - i = 1 by omega, enc_small (by omega)]
          simp
theorem rdU_took {l : List UInt8} {w k : Nat} (h : rdU 0 0 l = (0, w, k)) : 0 < k ∧ k ≤ l.length ∧ l.take k = enc w := by
  obtain ⟨v, h1, h2, h3, h4, -⟩ := rdU_inv l 0 0 w k h
  simp at h1 h3 h4
  subst h1
  exact ⟨h2, h3, h4⟩
theorem int_took {b : List UInt8} {a u k : Nat} (ha : a ≤ b.length) (h : rdU 0 0 (b.drop a) = (0, u, k)) : a < a + k ∧ a + k ≤ b.length ∧ b.take a ++ enc u = b.take (a + k) := by
  obtain ⟨h1, h2, h3⟩ := rdU_took h
  rw [List.length_drop] at h2
  exact ⟨by omega, by omega, by rw [List.take_add, h3]⟩
def intP (b : List UInt8) (a : Int) : Int × Int × Int :=
  if a < 0 ∨ (b.length : Int) < a then (0, 0, 1)
  else if (rdU 0 0 (b.drop a.toNat)).1 = 0 then (unzz (rdU 0 0 (b.drop a.toNat)).2.1, ((a.toNat + (rdU 0 0 (b.drop a.toNat)).2.2 : Nat) : Int), 0)
  else (0, 0, (rdU 0 0 (b.drop a.toNat)).1)
theorem ok0 : okI 0 := ⟨by decide, by decide⟩
theorem intP_ok (b : List UInt8) (a : Int) : okI (intP b a).1 := by
  unfold intP
  split
  · exact ok0
  · split
    · exact unzz_ok (rdU_le _ 0 0 (by decide) (by omega)).2.2.1
    · exact ok0
theorem intP_took {b : List UInt8} {a : Int} (h : (intP b a).2.2 = 0) : 0 ≤ a ∧ a ≤ (intP b a).2.1 ∧ (intP b a).2.1 ≤ b.length ∧ b.take a.toNat ++ enc (zz (intP b a).1) = b.take (intP b a).2.1.toNat := by
  unfold intP at h ⊢
  split at h
  · simp at h
  · rename_i h1
    split at h
    · rename_i h2
      rw [if_neg h1, if_pos h2]
      have ha : a.toNat ≤ b.length := by omega
      have he : rdU 0 0 (b.drop a.toNat) = (0, (rdU 0 0 (b.drop a.toNat)).2.1, (rdU 0 0 (b.drop a.toNat)).2.2) := by rw [← h2]
      obtain ⟨g1, g2, g3⟩ := int_took ha he
      refine ⟨by omega, by simp only; omega, by simp only; omega, ?_⟩
      simp only [zz_unzz, Int.toNat_natCast]
      exact g3
    · rename_i h2
      exact absurd h h2
/-- A number read. -/
def rdN (b : List UInt8) (st : RS) : Int × RS :=
  if st.1 = 0 then (if (intP b st.2).2.2 = 0 then ((intP b st.2).1, 0, (intP b st.2).2.1) else (0, (intP b st.2).2.2, st.2)) else (0, st)
theorem rdN_ok (b : List UInt8) (st : RS) : okI (rdN b st).1 := by
  unfold rdN
  split
  · split
    · exact intP_ok _ _
    · exact ok0
  · exact ok0
theorem rdN_stk (b : List UInt8) {e : Int} (a : Int) (h : ¬ e = 0) : rdN b (e, a) = (0, e, a) := by unfold rdN; rw [if_neg h]
theorem rdN_took {b : List UInt8} {a n k : Int} (h : rdN b (0, a) = (n, 0, k)) : 0 ≤ a ∧ a ≤ k ∧ k ≤ b.length ∧ b.take a.toNat ++ enc (zz n) = b.take k.toNat := by
  unfold rdN at h
  rw [if_pos rfl] at h
  split at h
  · rename_i h1
    simp only [Prod.mk.injEq, true_and] at h
    obtain ⟨rfl, rfl⟩ := h
    exact intP_took h1
  · rename_i h1
    simp only [Prod.mk.injEq] at h
    exact absurd h.2.1 h1
def enI : List PV → List UInt8
  | [.v (.int _ n)] => enc (zz n)
  | _ => []
def foI : Fo := ⟨1, fun cs => ∃ n, cs = [I n] ∧ okI n, enI, fun _ => 10, fun b st => ([I (rdN b st).1], (rdN b st).2), [I 0]⟩
@[simp] theorem foI_en (n : Int) : foI.en [I n] = enc (zz n) := rfl
@[simp] theorem foI_n : foI.n = 1 := rfl
theorem foI_L : FoL foI where
  len := fun cs ⟨n, h, _⟩ => by subst h; rfl
  szl := fun cs ⟨n, h, ho⟩ => by subst h; exact enc_len10 (zz_lt ho)
  zok := ⟨0, rfl, ok0⟩
  rok := fun b st => ⟨_, rfl, rdN_ok b st⟩
  stk := fun b e a h => by show (_, _) = _; rw [rdN_stk b a h]; rfl
  took := fun b a cs k h => by
    simp only [foI, Prod.mk.injEq] at h
    obtain ⟨rfl, h⟩ := h
    have h' : rdN b (0, a) = ((rdN b (0, a)).1, 0, k) := by rw [← h]
    exact rdN_took h'
/-! ### Texts -/
def textP (b : List UInt8) (a : Int) : List UInt8 × Int × Int :=
  if a < 0 ∨ (b.length : Int) < a then ([], 0, 1)
  else if (lnR b.length a.toNat 0 (rdU 0 0 (b.drop a.toNat))).1 = 0 then ((b.drop (lnR b.length a.toNat 0 (rdU 0 0 (b.drop a.toNat))).2.2).take (lnR b.length a.toNat 0 (rdU 0 0 (b.drop a.toNat))).2.1, (((lnR b.length a.toNat 0 (rdU 0 0 (b.drop a.toNat))).2.2 + (lnR b.length a.toNat 0 (rdU 0 0 (b.drop a.toNat))).2.1 : Nat) : Int), 0)
  else ([], 0, (lnR b.length a.toNat 0 (rdU 0 0 (b.drop a.toNat))).1)
theorem textP_took {b : List UInt8} {a : Int} (h : (textP b a).2.2 = 0) : 0 ≤ a ∧ a ≤ (textP b a).2.1 ∧ (textP b a).2.1 ≤ b.length ∧ b.take a.toNat ++ (enc (zz (textP b a).1.length) ++ (textP b a).1) = b.take (textP b a).2.1.toNat := by
  unfold textP at h ⊢
  split at h
  · simp at h
  · rename_i h1
    split at h
    · rename_i h2
      rw [if_neg h1, if_pos h2]
      have ha : a.toNat ≤ b.length := by omega
      generalize hr : lnR b.length a.toNat 0 (rdU 0 0 (b.drop a.toNat)) = r at h2 ⊢
      obtain ⟨e, n, q⟩ := r
      simp only at h2
      subst h2
      obtain ⟨g1, g2, g3, g4, g5⟩ := lnR_ok hr
      have hu : rdU 0 0 (b.drop a.toNat) = (0, (rdU 0 0 (b.drop a.toNat)).2.1, (rdU 0 0 (b.drop a.toNat)).2.2) := by rw [← g1]
      obtain ⟨k1, k2, k3⟩ := int_took ha hu
      have hz := zz_unzz (rdU 0 0 (b.drop a.toNat)).2.1
      rw [g2] at hz
      rw [← g4] at k1 k2 k3
      have hl : ((b.drop q).take n).length = n := by rw [List.length_take, List.length_drop]; omega
      simp only [hl]
      refine ⟨by omega, by omega, by omega, ?_⟩
      rw [Int.toNat_natCast, ← List.append_assoc, hz, k3, List.take_add]
    · rename_i h2
      exact absurd h h2
theorem textP_len (b : List UInt8) (a : Int) : (textP b a).1.length ≤ 65536 := by
  unfold textP
  split
  · simp
  · split
    · rename_i h2
      generalize hr : lnR b.length a.toNat 0 (rdU 0 0 (b.drop a.toNat)) = r at h2 ⊢
      obtain ⟨e, n, q⟩ := r
      simp only at h2
      subst h2
      obtain ⟨g1, g2, g3, g4, g5⟩ := lnR_ok hr
      simp only [List.length_take, List.length_drop]; omega
    · simp
def rdS (b : List UInt8) (st : RS) : List UInt8 × RS :=
  if st.1 = 0 then (if (textP b st.2).2.2 = 0 then ((textP b st.2).1, 0, (textP b st.2).2.1) else ([], (textP b st.2).2.2, st.2)) else ([], st)
theorem rdS_stk (b : List UInt8) {e : Int} (a : Int) (h : ¬ e = 0) : rdS b (e, a) = ([], e, a) := by unfold rdS; rw [if_neg h]
theorem rdS_took {b x : List UInt8} {a k : Int} (h : rdS b (0, a) = (x, 0, k)) : 0 ≤ a ∧ a ≤ k ∧ k ≤ b.length ∧ b.take a.toNat ++ (enc (zz x.length) ++ x) = b.take k.toNat := by
  unfold rdS at h
  rw [if_pos rfl] at h
  split at h
  · rename_i h1
    simp only [Prod.mk.injEq, true_and] at h
    obtain ⟨rfl, rfl⟩ := h
    exact textP_took h1
  · rename_i h1
    simp only [Prod.mk.injEq] at h
    exact absurd h.2.1 h1
theorem rdS_len (b : List UInt8) (st : RS) : (rdS b st).1.length ≤ 65536 := by
  unfold rdS
  split
  · split
    · exact textP_len _ _
    · simp
  · simp
def enS : List PV → List UInt8
  | [.v (.string s)] => enc (zz s.data.toList.length) ++ s.data.toList
  | _ => []
def szS : List PV → Nat
  | [.v (.string s)] => 10 + s.data.toList.length
  | _ => 10
def foS : Fo := ⟨1, fun cs => ∃ s : List UInt8, cs = [SB s] ∧ s.length ≤ 9223372036854775807, enS, szS, fun b st => ([SB (rdS b st).1], (rdS b st).2), [SB []]⟩
@[simp] theorem foS_en (s : List UInt8) : foS.en [SB s] = enc (zz s.length) ++ s := by show enc (zz (bs s).data.toList.length) ++ (bs s).data.toList = _; rw [bs_list]
@[simp] theorem foS_sz (s : List UInt8) : foS.sz [SB s] = 10 + s.length := by show 10 + (bs s).data.toList.length = _; rw [bs_list]
@[simp] theorem foS_n : foS.n = 1 := rfl
theorem foS_L : FoL foS where
  len := fun cs ⟨s, h, _⟩ => by subst h; rfl
  szl := fun cs ⟨s, h, ho⟩ => by
    subst h
    have := enc_len10 (zz_lt (n := (s.length : Int)) ⟨by omega, by omega⟩)
    rw [foS_en, foS_sz, List.length_append]; omega
  zok := ⟨[], rfl, by simp⟩
  rok := fun b st => ⟨_, rfl, by have := rdS_len b st; omega⟩
  stk := fun b e a h => by show (_, _) = _; rw [rdS_stk b a h]; rfl
  took := fun b a cs k h => by
    simp only [foS, Prod.mk.injEq] at h
    obtain ⟨rfl, h⟩ := h
    have h' : rdS b (0, a) = ((rdS b (0, a)).1, 0, k) := by rw [← h]
    rw [foS_en]
    exact rdS_took h'
/-! ### Flags -/
def rdB (b : List UInt8) (st : RS) : Bool × RS :=
  if (rdN b st).2.1 = 0 ∧ ¬ ((rdN b st).1 = 0 ∨ (rdN b st).1 = 1) then (false, 3, (rdN b st).2.2) else (decide ((rdN b st).1 = 1), (rdN b st).2)
theorem rdB_stk (b : List UInt8) {e : Int} (a : Int) (h : ¬ e = 0) : rdB b (e, a) = (false, e, a) := by
  unfold rdB; rw [rdN_stk b a h]; simp [h]
theorem rdB_took {b : List UInt8} {x : Bool} {a k : Int} (h : rdB b (0, a) = (x, 0, k)) : 0 ≤ a ∧ a ≤ k ∧ k ≤ b.length ∧ b.take a.toNat ++ enc (zz (if x = true then 1 else 0)) = b.take k.toNat := by
  unfold rdB at h
  split at h
  · simp at h
  · rename_i h1
    simp only [Prod.mk.injEq] at h
    obtain ⟨rfl, h2⟩ := h
    have hn : (rdN b (0, a)).1 = 0 ∨ (rdN b (0, a)).1 = 1 := by
      rw [h2] at h1
      simp at h1
      by_cases h0 : (rdN b (0, a)).1 = 0
      · exact .inl h0
      · exact .inr (h1 h0)
    have h' : rdN b (0, a) = ((rdN b (0, a)).1, 0, k) := by rw [← h2]
    have := rdN_took h'
    rcases hn with hn | hn
    · rw [hn] at this ⊢; simpa using this
    · rw [hn] at this ⊢; simpa using this
def enB : List PV → List UInt8
  | [.v (.bool x)] => enc (zz (if x = true then 1 else 0))
  | _ => []
def foB : Fo := ⟨1, fun cs => ∃ x, cs = [B x], enB, fun _ => 10, fun b st => ([B (rdB b st).1], (rdB b st).2), [B false]⟩
@[simp] theorem foB_en (x : Bool) : foB.en [B x] = enc (zz (if x = true then 1 else 0)) := rfl
@[simp] theorem foB_n : foB.n = 1 := rfl
theorem foB_L : FoL foB where
  len := fun cs ⟨s, h⟩ => by subst h; rfl
  szl := fun cs ⟨x, h⟩ => by
    subst h
    rw [foB_en]
    exact enc_len10 (zz_lt (by cases x <;> exact ⟨by decide, by decide⟩))
  zok := ⟨false, rfl⟩
  rok := fun b st => ⟨_, rfl⟩
  stk := fun b e a h => by show (_, _) = _; rw [rdB_stk b a h]; rfl
  took := fun b a cs k h => by
    simp only [foB, Prod.mk.injEq] at h
    obtain ⟨rfl, h⟩ := h
    have h' : rdB b (0, a) = ((rdB b (0, a)).1, 0, k) := by rw [← h]
    rw [foB_en]
    exact rdB_took h'
/-! ### One behind the other -/
def sq (f g : Fo) : Fo :=
  ⟨f.n + g.n, fun cs => f.ok (cs.take f.n) ∧ g.ok (cs.drop f.n), fun cs => f.en (cs.take f.n) ++ g.en (cs.drop f.n), fun cs => f.sz (cs.take f.n) + g.sz (cs.drop f.n),
    fun b st => ((f.rd b st).1 ++ (g.rd b (f.rd b st).2).1, (g.rd b (f.rd b st).2).2), f.ze ++ g.ze⟩
@[simp] theorem sq_n (f g : Fo) : (sq f g).n = f.n + g.n := rfl
theorem sq_en (f g : Fo) (cs : List PV) : (sq f g).en cs = f.en (cs.take f.n) ++ g.en (cs.drop f.n) := rfl
theorem sq_sz (f g : Fo) (cs : List PV) : (sq f g).sz cs = f.sz (cs.take f.n) + g.sz (cs.drop f.n) := rfl
theorem sq_rd (f g : Fo) (b : List UInt8) (st : RS) : (sq f g).rd b st = ((f.rd b st).1 ++ (g.rd b (f.rd b st).2).1, (g.rd b (f.rd b st).2).2) := rfl
theorem take_app {α : Type} {n : Nat} {a b : List α} (h : a.length = n) : (a ++ b).take n = a := by subst h; simp
theorem drop_appN {α : Type} {n : Nat} {a b : List α} (h : a.length = n) : (a ++ b).drop n = b := by subst h; simp
theorem sq_L {f g : Fo} (hf : FoL f) (hg : FoL g) : FoL (sq f g) where
  len := fun cs ⟨h1, h2⟩ => by
    have e1 := hf.len _ h1
    have e2 := hg.len _ h2
    rw [List.length_take] at e1
    rw [List.length_drop] at e2
    show _ = f.n + g.n
    by_cases hz : f.n ≤ cs.length
    · omega
    · have : g.n = 0 := by omega
      omega
  szl := fun cs ⟨h1, h2⟩ => by
    have := hf.szl _ h1
    have := hg.szl _ h2
    rw [sq_en, sq_sz, List.length_append]; omega
  zok := by
    have e := hf.len _ hf.zok
    refine ⟨?_, ?_⟩
    · show f.ok ((f.ze ++ g.ze).take f.n); rw [take_app e]; exact hf.zok
    · show g.ok ((f.ze ++ g.ze).drop f.n); rw [drop_appN e]; exact hg.zok
  rok := fun b st => by
    have e := hf.len _ (hf.rok b st)
    refine ⟨?_, ?_⟩
    · show f.ok (((f.rd b st).1 ++ _).take f.n); rw [take_app e]; exact hf.rok b st
    · show g.ok (((f.rd b st).1 ++ _).drop f.n); rw [drop_appN e]; exact hg.rok b _
  stk := fun b e a h => by rw [sq_rd, hf.stk b e a h]; simp only; rw [hg.stk b e a h]; rfl
  took := fun b a cs k h => by
    rw [sq_rd] at h
    simp only [Prod.mk.injEq] at h
    obtain ⟨rfl, h2⟩ := h
    have e := hf.len _ (hf.rok b (0, a))
    rw [sq_en, take_app e, drop_appN e]
    generalize hr : f.rd b (0, a) = r at h2 ⊢
    obtain ⟨c1, e1, a1⟩ := r
    simp only at h2 ⊢
    by_cases h0 : e1 = 0
    · subst h0
      obtain ⟨p1, p2, p3, p4⟩ := hf.took b a c1 a1 hr
      have h2' : g.rd b (0, a1) = ((g.rd b (0, a1)).1, 0, k) := by rw [← h2]
      obtain ⟨q1, q2, q3, q4⟩ := hg.took b a1 _ k h2'
      exact ⟨p1, by omega, q3, by rw [← List.append_assoc, p4, q4]⟩
    · rw [hg.stk b e1 a1 h0] at h2
      simp only [Prod.mk.injEq] at h2
      exact absurd h2.1 h0
/-! ### Lists -/
def rdCf (b : List UInt8) (st : RS) : Int × RS :=
  if ¬ (rdN b st).2.1 = 0 then (0, (rdN b st).2) else if (rdN b st).1 < 0 then (0, 3, (rdN b st).2.2) else if 1000 < (rdN b st).1 then (0, 5, (rdN b st).2.2) else rdN b st
theorem rdC_stk (b : List UInt8) {e : Int} (a : Int) (h : ¬ e = 0) : rdCf b (e, a) = (0, e, a) := by unfold rdCf; rw [rdN_stk b a h]; simp [h]
theorem rdC_bd (b : List UInt8) (st : RS) : 0 ≤ (rdCf b st).1 ∧ (rdCf b st).1 ≤ 1000 := by
  unfold rdCf
  split
  · simp
  · split
    · simp
    · split
      · simp
      · omega
theorem rdC_took {b : List UInt8} {a n k : Int} (h : rdCf b (0, a) = (n, 0, k)) : 0 ≤ a ∧ a ≤ k ∧ k ≤ b.length ∧ b.take a.toNat ++ enc (zz n) = b.take k.toNat := by
  unfold rdCf at h
  split at h
  · rename_i h1
    simp only [Prod.mk.injEq] at h
    rw [h.2] at h1
    exact absurd rfl h1
  · split at h
    · simp at h
    · split at h
      · simp at h
      · exact rdN_took h
def rdLf (rd : List UInt8 → RS → List PV × RS) (b : List UInt8) : Nat → RS → List (List PV) × RS
  | 0, st => ([], st)
  | k + 1, st => if st.1 = 0 then ((rd b st).1 :: (rdLf rd b k (rd b st).2).1, (rdLf rd b k (rd b st).2).2) else ([], st)
theorem rdL_stk (rd : List UInt8 → RS → List PV × RS) (b : List UInt8) (k : Nat) {e : Int} (a : Int) (h : ¬ e = 0) : rdLf rd b k (e, a) = ([], e, a) := by
  cases k with
  | zero => rfl
  | succ k => unfold rdLf; rw [if_neg h]
theorem rdL_len (rd : List UInt8 → RS → List PV × RS) (b : List UInt8) : ∀ k st, (rdLf rd b k st).1.length ≤ k ∧ ((rdLf rd b k st).2.1 = 0 → (rdLf rd b k st).1.length = k)
  | 0, st => by simp [rdLf]
  | k + 1, st => by
    unfold rdLf
    split
    · have := rdL_len rd b k (rd b st).2
      simp only [List.length_cons]
      exact ⟨by omega, fun h => by have := this.2 h; omega⟩
    · rename_i h
      simp [h]
def enL (f : List PV → List UInt8) : List PV → List UInt8
  | [.sl _ rows] => enc (zz rows.length) ++ rows.flatMap f
  | _ => []
def szL (f : List PV → Nat) : List PV → Nat
  | [.sl _ rows] => 10 + (rows.map f).sum
  | _ => 10
def fl (c : Nat) (f : Fo) : Fo :=
  ⟨1, fun cs => ∃ rows, cs = [.sl c rows] ∧ rows.length ≤ 9223372036854775807 ∧ ∀ r ∈ rows, f.ok r, enL f.en, szL f.sz,
    fun b st => ([.sl c (rdLf f.rd b (rdCf b st).1.toNat (rdCf b st).2).1], (rdLf f.rd b (rdCf b st).1.toNat (rdCf b st).2).2), [.sl c []]⟩
@[simp] theorem fl_n (c : Nat) (f : Fo) : (fl c f).n = 1 := rfl
theorem fl_en (c : Nat) (f : Fo) (rows : List (List PV)) : (fl c f).en [.sl c rows] = enc (zz rows.length) ++ rows.flatMap f.en := rfl
theorem fl_sz (c : Nat) (f : Fo) (rows : List (List PV)) : (fl c f).sz [.sl c rows] = 10 + (rows.map f.sz).sum := rfl
theorem rdL_took {f : Fo} (hf : FoL f) {b : List UInt8} : ∀ (k : Nat) (a z : Int), 0 ≤ a → a ≤ b.length → (rdLf f.rd b k (0, a)).2 = (0, z) → a ≤ z ∧ z ≤ b.length ∧ b.take a.toNat ++ (rdLf f.rd b k (0, a)).1.flatMap f.en = b.take z.toNat
  | 0, a, z, h0, h1, h => by
    simp only [rdLf, Prod.mk.injEq, true_and] at h
    subst h
    exact ⟨by omega, h1, by simp [rdLf]⟩
  | k + 1, a, z, h0, h1, h => by
    unfold rdLf at h ⊢
    simp only [if_true] at h ⊢
    generalize hr : f.rd b (0, a) = r at h ⊢
    obtain ⟨c1, e1, a1⟩ := r
    simp only at h ⊢
    by_cases hz : e1 = 0
    · subst hz
      obtain ⟨p1, p2, p3, p4⟩ := hf.took b a c1 a1 hr
      obtain ⟨q1, q2, q3⟩ := rdL_took hf k a1 z (by omega) p3 h
      refine ⟨by omega, q2, ?_⟩
      rw [List.flatMap_cons, ← List.append_assoc, p4, q3]
    · rw [rdL_stk _ _ _ _ hz] at h
      simp only [Prod.mk.injEq] at h
      exact absurd h.1 hz
theorem rdL_ok {f : Fo} (hf : FoL f) {b : List UInt8} : ∀ (k : Nat) (st : RS), ∀ r ∈ (rdLf f.rd b k st).1, f.ok r
  | 0, st, r, h => by simp [rdLf] at h
  | k + 1, st, r, h => by
    unfold rdLf at h
    split at h
    · rcases List.mem_cons.1 h with rfl | h
      · exact hf.rok b st
      · exact rdL_ok hf k _ r h
    · simp at h
theorem flatMap_le {α : Type} {f : α → List UInt8} {g : α → Nat} {l : List α} (h : ∀ x ∈ l, (f x).length ≤ g x) : (l.flatMap f).length ≤ (l.map g).sum := by
  induction l with
  | nil => simp
  | cons x l ih =>
    rw [List.flatMap_cons, List.length_append, List.map_cons, List.sum_cons]
    have := h x List.mem_cons_self
    have := ih fun y hy => h y (List.mem_cons_of_mem _ hy)
    omega
theorem fl_L {f : Fo} (hf : FoL f) (c : Nat) : FoL (fl c f) where
  len := fun cs ⟨s, h, _⟩ => by subst h; rfl
  szl := fun cs ⟨rows, h, hl, ho⟩ => by
    subst h
    have := enc_len10 (zz_lt (n := (rows.length : Int)) ⟨by omega, by omega⟩)
    have := flatMap_le fun r hr => hf.szl r (ho r hr)
    rw [fl_en, fl_sz, List.length_append]; omega
  zok := ⟨[], rfl, by simp, by simp⟩
  rok := fun b st => ⟨_, rfl, by have := (rdL_len f.rd b (rdCf b st).1.toNat (rdCf b st).2).1; have := rdC_bd b st; omega, rdL_ok hf _ _⟩
  stk := fun b e a h => by show (_, _) = _; rw [rdC_stk b a h]; simp only; rw [rdL_stk _ _ _ _ h]; rfl
  took := fun b a cs k h => by
    simp only [fl, Prod.mk.injEq] at h
    obtain ⟨rfl, h⟩ := h
    rw [fl_en]
    have hb := rdC_bd b (0, a)
    have hl := rdL_len f.rd b (rdCf b (0, a)).1.toNat (rdCf b (0, a)).2
    generalize hr : rdCf b (0, a) = r at h hb hl ⊢
    obtain ⟨n, e1, a1⟩ := r
    simp only at h hb hl ⊢
    by_cases hz : e1 = 0
    · subst hz
      obtain ⟨p1, p2, p3, p4⟩ := rdC_took hr
      obtain ⟨q1, q2, q3⟩ := rdL_took hf n.toNat a1 k (by omega) p3 h
      have hlen := hl.2 (by rw [h])
      refine ⟨p1, by omega, q2, ?_⟩
      rw [hlen, show ((n.toNat : Nat) : Int) = n by omega, ← List.append_assoc, p4, q3]
    · rw [rdL_stk _ _ _ _ hz] at h
      simp only [Prod.mk.injEq] at h
      exact absurd h.1 hz
/-- What is handed over: one cell is a value, several a struct. -/
def vOf : List PV → V
  | [p] => .p p
  | cs => .p (.agg cs)
@[simp] theorem vOf1 (p : PV) : vOf [p] = .p p := rfl
@[simp] theorem vOf2 (p q : PV) (l : List PV) : vOf (p :: q :: l) = .p (.agg (p :: q :: l)) := rfl
end Go.Proofs.Ytefhnofdfnmiaaa
/- The formats of the records. -/
namespace Go.Proofs.Ytefhnofdfnmiaaa
set_option linter.unusedSimpArgs false
set_option linter.unusedVariables false
set_option maxRecDepth 8000
open Go Go.Av
theorem foI_ok {n : Int} : foI.ok [I n] ↔ okI n := ⟨fun ⟨m, h, ho⟩ => by simp only [List.cons.injEq, and_true, PV.v.injEq, Value.int.injEq, true_and] at h; rw [h]; exact ho, fun h => ⟨n, rfl, h⟩⟩
theorem foI_sh {cs : List PV} (h : foI.ok cs) : ∃ x, cs = [I x] := by obtain ⟨n, h, -⟩ := h; exact ⟨n, h⟩
theorem foS_sh {cs : List PV} (h : foS.ok cs) : ∃ x, cs = [SB x] := by obtain ⟨n, h, -⟩ := h; exact ⟨n, h⟩
theorem foB_sh {cs : List PV} (h : foB.ok cs) : ∃ x, cs = [B x] := by obtain ⟨n, h⟩ := h; exact ⟨n, h⟩
theorem fl_sh {c : Nat} {f : Fo} {cs : List PV} (h : (fl c f).ok cs) : ∃ x, cs = [.sl c x] := by obtain ⟨n, h, -⟩ := h; exact ⟨n, h⟩
theorem sq_split {f g : Fo} {cs : List PV} (h : (sq f g).ok cs) : ∃ c1 c2, cs = c1 ++ c2 ∧ f.ok c1 ∧ g.ok c2 := ⟨cs.take f.n, cs.drop f.n, (List.take_append_drop _ _).symm, h.1, h.2⟩
theorem fl_ok {c : Nat} {f : Fo} {rows : List (List PV)} (h : (fl c f).ok [.sl c rows]) : rows.length ≤ 9223372036854775807 ∧ ∀ r ∈ rows, f.ok r := by
  obtain ⟨n, h, ho⟩ := h
  simp only [List.cons.injEq, and_true, PV.sl.injEq, true_and] at h
  rw [h]; exact ho
/-! ### Zxid -/
def fZx : Fo := sq foI foI
theorem fZx_L : FoL fZx := sq_L foI_L foI_L
theorem fZx_sh {cs : List PV} (h : fZx.ok cs) : ∃ x0 x1, cs = [I x0, I x1] ∧ foI.ok [I x0] ∧ foI.ok [I x1] := by
  obtain ⟨_, _, rfl, h0, g0⟩ := sq_split h
  obtain ⟨x0, rfl⟩ := foI_sh h0
  have h1 := g0
  obtain ⟨x1, rfl⟩ := foI_sh h1
  exact ⟨x0, x1, rfl, h0, h1⟩
theorem fZx_en (x0 : Int) (x1 : Int) : fZx.en [I x0, I x1] = foI.en [I x0] ++ (foI.en [I x1]) := rfl
/-! ### Member -/
def fMb : Fo := sq foI (sq foI (sq foI foI))
theorem fMb_L : FoL fMb := sq_L foI_L (sq_L foI_L (sq_L foI_L foI_L))
theorem fMb_sh {cs : List PV} (h : fMb.ok cs) : ∃ x0 x1 x2 x3, cs = [I x0, I x1, I x2, I x3] ∧ foI.ok [I x0] ∧ foI.ok [I x1] ∧ foI.ok [I x2] ∧ foI.ok [I x3] := by
  obtain ⟨_, _, rfl, h0, g0⟩ := sq_split h
  obtain ⟨x0, rfl⟩ := foI_sh h0
  obtain ⟨_, _, rfl, h1, g1⟩ := sq_split g0
  obtain ⟨x1, rfl⟩ := foI_sh h1
  obtain ⟨_, _, rfl, h2, g2⟩ := sq_split g1
  obtain ⟨x2, rfl⟩ := foI_sh h2
  have h3 := g2
  obtain ⟨x3, rfl⟩ := foI_sh h3
  exact ⟨x0, x1, x2, x3, rfl, h0, h1, h2, h3⟩
theorem fMb_en (x0 : Int) (x1 : Int) (x2 : Int) (x3 : Int) : fMb.en [I x0, I x1, I x2, I x3] = foI.en [I x0] ++ (foI.en [I x1] ++ (foI.en [I x2] ++ (foI.en [I x3]))) := rfl
/-! ### Config -/
def fCf : Fo := sq fZx (sq foI (fl 4 fMb))
/-! ### Znode -/
def fNd : Fo := sq foS (sq foS (sq foI (sq foI foI)))
/-! ### Part -/
def fPt : Fo := sq foI (sq fNd (sq foI fCf))
/-! ### Txn -/
def fTx : Fo := sq fZx (sq foI (sq foI (sq foI (sq foI (sq foS (fl 11 fPt))))))
/-! ### State -/
def fSt : Fo := sq (fl 5 fNd) (sq (fl 1 foI) (sq foI (sq fCf fZx)))
/-! ### Op -/
def fOp : Fo := sq foI (sq foS (sq foS (sq foI (sq foB foB))))
theorem fOp_L : FoL fOp := sq_L foI_L (sq_L foS_L (sq_L foS_L (sq_L foI_L (sq_L foB_L foB_L))))
theorem fOp_sh {cs : List PV} (h : fOp.ok cs) : ∃ x0 x1 x2 x3 x4 x5, cs = [I x0, SB x1, SB x2, I x3, B x4, B x5] ∧ foI.ok [I x0] ∧ foS.ok [SB x1] ∧ foS.ok [SB x2] ∧ foI.ok [I x3] ∧ foB.ok [B x4] ∧ foB.ok [B x5] := by
  obtain ⟨_, _, rfl, h0, g0⟩ := sq_split h
  obtain ⟨x0, rfl⟩ := foI_sh h0
  obtain ⟨_, _, rfl, h1, g1⟩ := sq_split g0
  obtain ⟨x1, rfl⟩ := foS_sh h1
  obtain ⟨_, _, rfl, h2, g2⟩ := sq_split g1
  obtain ⟨x2, rfl⟩ := foS_sh h2
  obtain ⟨_, _, rfl, h3, g3⟩ := sq_split g2
  obtain ⟨x3, rfl⟩ := foI_sh h3
  obtain ⟨_, _, rfl, h4, g4⟩ := sq_split g3
  obtain ⟨x4, rfl⟩ := foB_sh h4
  have h5 := g4
  obtain ⟨x5, rfl⟩ := foB_sh h5
  exact ⟨x0, x1, x2, x3, x4, x5, rfl, h0, h1, h2, h3, h4, h5⟩
theorem fOp_en (x0 : Int) (x1 : List UInt8) (x2 : List UInt8) (x3 : Int) (x4 : Bool) (x5 : Bool) : fOp.en [I x0, SB x1, SB x2, I x3, B x4, B x5] = foI.en [I x0] ++ (foS.en [SB x1] ++ (foS.en [SB x2] ++ (foI.en [I x3] ++ (foB.en [B x4] ++ (foB.en [B x5]))))) := rfl
/-! ### Request -/
def fRq : Fo := sq foI (sq foI (sq foI (sq (fl 6 fOp) (sq foI (sq (fl 4 fMb) (sq (fl 1 foI) fZx))))))
theorem fRq_L : FoL fRq := sq_L foI_L (sq_L foI_L (sq_L foI_L (sq_L (fl_L fOp_L 6) (sq_L foI_L (sq_L (fl_L fMb_L 4) (sq_L (fl_L foI_L 1) fZx_L))))))
theorem fRq_sh {cs : List PV} (h : fRq.ok cs) : ∃ x0 x1 x2 x3 x4 x5 x6 x7 x8, cs = [I x0, I x1, I x2, .sl 6 x3, I x4, .sl 4 x5, .sl 1 x6, I x7, I x8] ∧ foI.ok [I x0] ∧ foI.ok [I x1] ∧ foI.ok [I x2] ∧ (fl 6 fOp).ok [.sl 6 x3] ∧ foI.ok [I x4] ∧ (fl 4 fMb).ok [.sl 4 x5] ∧ (fl 1 foI).ok [.sl 1 x6] ∧ fZx.ok [I x7, I x8] := by
  obtain ⟨_, _, rfl, h0, g0⟩ := sq_split h
  obtain ⟨x0, rfl⟩ := foI_sh h0
  obtain ⟨_, _, rfl, h1, g1⟩ := sq_split g0
  obtain ⟨x1, rfl⟩ := foI_sh h1
  obtain ⟨_, _, rfl, h2, g2⟩ := sq_split g1
  obtain ⟨x2, rfl⟩ := foI_sh h2
  obtain ⟨_, _, rfl, h3, g3⟩ := sq_split g2
  obtain ⟨x3, rfl⟩ := fl_sh h3
  obtain ⟨_, _, rfl, h4, g4⟩ := sq_split g3
  obtain ⟨x4, rfl⟩ := foI_sh h4
  obtain ⟨_, _, rfl, h5, g5⟩ := sq_split g4
  obtain ⟨x5, rfl⟩ := fl_sh h5
  obtain ⟨_, _, rfl, h6, g6⟩ := sq_split g5
  obtain ⟨x6, rfl⟩ := fl_sh h6
  have h7 := g6
  obtain ⟨x7, x8, rfl, -⟩ := fZx_sh h7
  exact ⟨x0, x1, x2, x3, x4, x5, x6, x7, x8, rfl, h0, h1, h2, h3, h4, h5, h6, h7⟩
theorem fRq_en (x0 : Int) (x1 : Int) (x2 : Int) (x3 : List (List PV)) (x4 : Int) (x5 : List (List PV)) (x6 : List (List PV)) (x7 : Int) (x8 : Int) : fRq.en [I x0, I x1, I x2, .sl 6 x3, I x4, .sl 4 x5, .sl 1 x6, I x7, I x8] = foI.en [I x0] ++ (foI.en [I x1] ++ (foI.en [I x2] ++ ((fl 6 fOp).en [.sl 6 x3] ++ (foI.en [I x4] ++ ((fl 4 fMb).en [.sl 4 x5] ++ ((fl 1 foI).en [.sl 1 x6] ++ (fZx.en [I x7, I x8]))))))) := rfl
/-! ### Vote -/
def fVt : Fo := sq foI (sq foI (sq foI (sq fZx (sq foI foI))))
theorem fVt_en (x0 : Int) (x1 : Int) (x2 : Int) (x3 : Int) (x4 : Int) (x5 : Int) (x6 : Int) : fVt.en [I x0, I x1, I x2, I x3, I x4, I x5, I x6] = foI.en [I x0] ++ (foI.en [I x1] ++ (foI.en [I x2] ++ (fZx.en [I x3, I x4] ++ (foI.en [I x5] ++ (foI.en [I x6]))))) := rfl
/-! ### Plan -/
def fPl : Fo := sq foI (sq fZx (sq fSt (fl 8 fTx)))
theorem fPl_en (x0 : Int) (x1 : Int) (x2 : Int) (x3 : List (List PV)) (x4 : List (List PV)) (x5 : Int) (x6 : Int) (x7 : Int) (x8 : Int) (x9 : List (List PV)) (x10 : Int) (x11 : Int) (x12 : List (List PV)) : fPl.en [I x0, I x1, I x2, .sl 5 x3, .sl 1 x4, I x5, I x6, I x7, I x8, .sl 4 x9, I x10, I x11, .sl 8 x12] = foI.en [I x0] ++ (fZx.en [I x1, I x2] ++ (fSt.en [.sl 5 x3, .sl 1 x4, I x5, I x6, I x7, I x8, .sl 4 x9, I x10, I x11] ++ ((fl 8 fTx).en [.sl 8 x12]))) := rfl
theorem flatMap_snoc {α : Type} {f : α → List UInt8} {l : List α} {k : Nat} (h : k < l.length) : (l.take (k + 1)).flatMap f = (l.take k).flatMap f ++ f l[k] := by
  rw [List.take_succ_eq_append_getElem h]; simp only [List.flatMap_append, List.flatMap_cons, List.flatMap_nil, List.append_nil]
theorem flatMap_take_le {α : Type} (f : α → List UInt8) (l : List α) (k : Nat) : ((l.take k).flatMap f).length ≤ (l.flatMap f).length := by
  have : l.flatMap f = (l.take k).flatMap f ++ (l.drop k).flatMap f := by rw [← List.flatMap_append, List.take_append_drop]
  rw [this, List.length_append]; omega
end Go.Proofs.Ytefhnofdfnmiaaa
/- Records: what the laws let pass, and how many bytes that are at most. -/
namespace Go.Proofs.Ytefhnofdfnmiaaa
set_option linter.unusedSimpArgs false
set_option linter.unusedVariables false
set_option maxRecDepth 8000
open Go Go.Av
attribute [local simp] Try.T1 Try.T2 Try.T3 Try.T4 Try.T5 Try.T9 Try.T12 Try.T15 Try.T16 Try.T17 Try.T21 Try.T22 Try.T23 Try.T24 Try.T26 Try.T27 Try.T29 Try.T30 Try.T32 Try.T33 Try.T34 Try.T35 Try.T36 Try.T38 Try.T40 Try.T42 Try.T43 Try.T45 Try.T47 Try.T49 Try.T50 Try.T51 Try.T53 Try.T54 Try.T55 Try.T56 Try.T57 Try.T59 Try.T61 Try.T63 Try.T65 Try.T66 Try.T67 Try.T69 Try.T70 Try.T71 Try.T72 Try.T73 Try.T74 Try.T75 Try.T76 Try.T78 Try.T79 Try.T80 Try.T81 Try.T82 Try.T83 Try.T84 Try.T85 Try.T86 Try.T87 Try.T88 Try.T89 Try.T90 Try.T91 Try.T92 Try.T93 Try.T94 Try.T95 Try.T96 Try.T97 Try.T98 Try.T99 Try.T101 Try.T102 Try.T103 Try.T104 Try.T105 Try.T106 Try.T107 Try.T108 Try.T109 Try.T112 Try.T115 Try.T116 Try.T119 Try.T120
attribute [local irreducible] Go.Av.CallK Go.Av.CallE Go.Av.CallQ Go.Av.CallF Go.Av.CallR Go.Av.CallH Go.Av.Con
def lenP : PV → Nat
  | .sl _ l => l.length
  | .v (.string s) => s.data.toList.length
  | _ => 0
@[simp] theorem lenP_sl (c : Nat) (l : List (List PV)) : lenP (.sl c l) = l.length := rfl
@[simp] theorem lenP_SB (l : List UInt8) : lenP (SB l) = l.length := by show (bs l).data.toList.length = _; rw [bs_list]
def rowsP : PV → List (List PV)
  | .sl _ l => l
  | _ => []
@[simp] theorem rowsP_sl (c : Nat) (l : List (List PV)) : rowsP (.sl c l) = l := rfl
theorem sum_le {α : Type} {f g : α → Nat} {l : List α} (h : ∀ x ∈ l, f x ≤ g x) : (l.map f).sum ≤ (l.map g).sum := by
  induction l with
  | nil => simp
  | cons x l ih =>
    have := h x List.mem_cons_self
    have := ih fun y hy => h y (List.mem_cons_of_mem _ hy)
    simp only [List.map_cons, List.sum_cons]; omega
theorem sum_const {α : Type} (c : Nat) (l : List α) : (l.map fun _ => c).sum = c * l.length := by
  induction l with
  | nil => simp
  | cons x l ih => simp only [List.map_cons, List.sum_cons, ih, List.length_cons, Nat.mul_succ]; omega
/-! ### Bytes by weight -/
theorem szMb (r : List PV) : fMb.sz r = 40 := rfl
theorem szI (r : List PV) : foI.sz r = 10 := rfl
theorem szl_const {f : Fo} {c : Nat} (h : ∀ r, f.sz r = c) (n : Nat) (rows : List (List PV)) : (fl n f).sz [.sl n rows] = 10 + c * rows.length := by
  rw [fl_sz, show f.sz = fun _ => c from funext h, sum_const]
/- Records, the document's: numbers laid one behind the other; zxids, lists of numbers, members. -/
/-- The bytes of some numbers. -/
def catZ (l : List Int) : List UInt8 := (l.map fun n => enc (zz n)).flatten
theorem catZ_take {l : List Int} {k : Nat} (h : k < l.length) : catZ (l.take (k + 1)) = catZ (l.take k) ++ enc (zz l[k]) := by
  unfold catZ; rw [List.take_succ_eq_append_getElem h, List.map_append, List.flatten_append]; simp
theorem catZ_len {l : List Int} (h : ∀ n ∈ l, okI n) : ∀ k, (catZ (l.take k)).length ≤ 10 * k := by
  intro k
  induction k with
  | zero => simp [catZ]
  | succ k ih =>
    by_cases hk : k < l.length
    · rw [catZ_take hk, List.length_append]
      have := enc_len10 (zz_lt (h _ (List.getElem_mem hk)))
      omega
    · rw [List.take_of_length_le (by omega)] at ih ⊢
      omega
set_option maxHeartbeats 1000000 in
theorem nums12_con (b : List UInt8) (l : List Int) (h : ∀ n ∈ l, okI n) (hl : l.length ≤ 3000000000) (hb : b.length ≤ 500000000000) : ACon Try.prog 40 [.p (.sl 1 (by8 b)), .p (.sl 1 (ints l))] (.p (.sl 1 (by8 (b ++ catZ l)))) := by
  refine wBody Try.tab Try.mixed Try.func40 rfl rfl Try.ntmps40 (by simp) (by simp) fun Q hr hn => ?_
  repeat' first | (refine hK _ ?_; clear hK) | (refine hK _ _ ?_; clear hK) | (clear hK; refine hK _ ?_; clear hK) | (clear hK; clear hK; refine hK _ ?_; clear hK) | (clear hK; clear hK; clear hK; refine hK _ ?_; clear hK) | (clear hK; clear hK; clear hK; clear hK; refine hK _ ?_; clear hK) | (refine wSeq fun K hK => ?_) | ((first | refine wReg ?_ | refine wDrwQ rfl (by kernel_rfl) ?_ | refine wDrwI ?_ | refine wDrw (by kernel_rfl) ?_); simp only [List.map_cons, List.map_nil, strip]) | ((first | refine wIs fun K hK => ?_ | refine wOs fun K hK => ?_ | refine wQs fun K hK => ?_ | refine CallK_plain ?_ | refine CallQ_plain ?_ | refine CallR_plain ?_ | refine wCond ?_); simp) | (refine wIn ?_; refine And.intro (by kernel_rfl) ?_; try simp only [thenA_n]) | (first | refine wBlock ?_ | refine wScope ?_) | ((first | refine wRet ?_ | refine wExit ?_ | refine wSkip ?_); try simp) | ((first | refine wLabel ?_ | refine wOn ?_ | refine wQn ?_); try simp only [thenA_n])
  refine wLoop (fun N st => ∃ k, k + N = l.length ∧ st.s 0 = .p (.sl 1 (by8 (b ++ catZ (l.take k)))) ∧ st.s 7 = .p (.sl 1 (ints l)) ∧ st.s 8 = .p (I l.length) ∧ st.s 9 = .p (I k)) l.length ⟨0, by simp [catZ]⟩ fun K N st hL ⟨k, hk, g0, g7, g8, g9⟩ => ?_
  by_cases hlt : k < l.length
  · have hlt' : (k : Int) < l.length := by omega
    have hw := wrapS k _ hlt (by omega)
    have he := ints_get hlt
    have hln := catZ_len h k
    have c := (putInt01_con (b ++ catZ (l.take k)) l[k] (h _ (List.getElem_mem hlt)) (by rw [List.length_append]; omega)).toPure
    rw [List.append_assoc, ← catZ_take hlt] at c
    repeat' first | (refine hK _ ?_; clear hK) | (refine hK _ _ ?_; clear hK) | (clear hK; refine hK _ ?_; clear hK) | (clear hK; clear hK; refine hK _ ?_; clear hK) | (clear hK; clear hK; clear hK; refine hK _ ?_; clear hK) | (clear hK; clear hK; clear hK; clear hK; refine hK _ ?_; clear hK) | (refine wSeq fun K hK => ?_) | ((first | refine wReg ?_ | refine wDrwQ rfl (by kernel_rfl) ?_ | refine wDrwI ?_ | refine wDrw (by kernel_rfl) ?_); simp only [List.map_cons, List.map_nil, strip]) | ((first | refine wIs fun K hK => ?_ | refine wOs fun K hK => ?_ | refine wQs fun K hK => ?_ | refine CallK_plain ?_ | refine CallQ_plain ?_ | refine CallR_plain ?_ | refine wCond ?_); simp [g0, g7, g8, g9, hlt, hlt', hw, he]) | (refine wIn ?_; refine And.intro (by kernel_rfl) ?_; try simp only [thenA_n]) | (first | refine wBlock ?_ | refine wScope ?_) | ((first | refine wRet ?_ | refine wExit ?_ | refine wSkip ?_); try simp) | ((first | refine wLabel ?_ | refine wOn ?_ | refine wQn ?_); try simp only [thenA_n]) | (refine CallE.pure (c) rfl ?_) | (refine CallE.lent (c) rfl ?_) | (refine CallF.pure (c) rfl ?_) | (refine CallF.lent (c) rfl ?_) | (refine CallE.own (c) ?_) | (refine CallH.pure (c) rfl ?_) | (refine CallH.lent (c) rfl ?_) | (refine CallH.own (c) ?_)
    refine hL _ (N - 1) (by omega) ⟨k + 1, by omega, ?_⟩
    simp [g0, g7, g8, g9, hw]
  · have hlt' : ¬ (k : Int) < l.length := by omega
    rw [List.take_of_length_le (by omega)] at g0
    repeat' first | (refine hK _ ?_; clear hK) | (refine hK _ _ ?_; clear hK) | (clear hK; refine hK _ ?_; clear hK) | (clear hK; clear hK; refine hK _ ?_; clear hK) | (clear hK; clear hK; clear hK; refine hK _ ?_; clear hK) | (clear hK; clear hK; clear hK; clear hK; refine hK _ ?_; clear hK) | (refine wSeq fun K hK => ?_) | ((first | refine wReg ?_ | refine wDrwQ rfl (by kernel_rfl) ?_ | refine wDrwI ?_ | refine wDrw (by kernel_rfl) ?_); simp only [List.map_cons, List.map_nil, strip]) | ((first | refine wIs fun K hK => ?_ | refine wOs fun K hK => ?_ | refine wQs fun K hK => ?_ | refine CallK_plain ?_ | refine CallQ_plain ?_ | refine CallR_plain ?_ | refine wCond ?_); simp [g0, g7, g8, g9, hlt, hlt']) | (refine wIn ?_; refine And.intro (by kernel_rfl) ?_; try simp only [thenA_n]) | (first | refine wBlock ?_ | refine wScope ?_) | ((first | refine wRet ?_ | refine wExit ?_ | refine wSkip ?_); try simp) | ((first | refine wLabel ?_ | refine wOn ?_ | refine wQn ?_); try simp only [thenA_n])
    all_goals apply hr
    all_goals simp [Try.f40, g0]
theorem zxid12_con (b : List UInt8) (e n : Int) (he : okI e) (hn' : okI n) (hb : b.length ≤ 500000000000) : ACon Try.prog 45 [.p (.sl 1 (by8 b)), .p (.agg [I e, I n])] (.p (.sl 1 (by8 (b ++ catZ [e, n])))) := by
  have h1 := enc_len10 (zz_lt he)
  have c1 := (putInt01_con b e he (by omega)).toPure
  have c2 := (putInt01_con (b ++ enc (zz e)) n hn' (by rw [List.length_append]; omega)).toPure
  rw [List.append_assoc, show enc (zz e) ++ enc (zz n) = catZ [e, n] by simp [catZ]] at c2
  generalize b ++ catZ [e, n] = r at *
  generalize b ++ enc (zz e) = x at *
  refine wBody Try.tab Try.mixed Try.func45 rfl rfl Try.ntmps45 (by simp) (by simp) fun Q hr hn => ?_
  repeat' first | (refine hK _ ?_; clear hK) | (refine hK _ _ ?_; clear hK) | (clear hK; refine hK _ ?_; clear hK) | (clear hK; clear hK; refine hK _ ?_; clear hK) | (clear hK; clear hK; clear hK; refine hK _ ?_; clear hK) | (clear hK; clear hK; clear hK; clear hK; refine hK _ ?_; clear hK) | (refine wSeq fun K hK => ?_) | ((first | refine wReg ?_ | refine wDrwQ rfl (by kernel_rfl) ?_ | refine wDrwI ?_ | refine wDrw (by kernel_rfl) ?_); simp only [List.map_cons, List.map_nil, strip]) | ((first | refine wIs fun K hK => ?_ | refine wOs fun K hK => ?_ | refine wQs fun K hK => ?_ | refine CallK_plain ?_ | refine CallQ_plain ?_ | refine CallR_plain ?_ | refine wCond ?_); simp) | (refine wIn ?_; refine And.intro (by kernel_rfl) ?_; try simp only [thenA_n]) | (first | refine wBlock ?_ | refine wScope ?_) | ((first | refine wRet ?_ | refine wExit ?_ | refine wSkip ?_); try simp) | ((first | refine wLabel ?_ | refine wOn ?_ | refine wQn ?_); try simp only [thenA_n]) | (refine CallE.pure (c1) rfl ?_) | (refine CallE.lent (c1) rfl ?_) | (refine CallF.pure (c1) rfl ?_) | (refine CallF.lent (c1) rfl ?_) | (refine CallE.own (c1) ?_) | (refine CallH.pure (c1) rfl ?_) | (refine CallH.lent (c1) rfl ?_) | (refine CallH.own (c1) ?_) | (refine CallE.pure (c2) rfl ?_) | (refine CallE.lent (c2) rfl ?_) | (refine CallF.pure (c2) rfl ?_) | (refine CallF.lent (c2) rfl ?_) | (refine CallE.own (c2) ?_) | (refine CallH.pure (c2) rfl ?_) | (refine CallH.lent (c2) rfl ?_) | (refine CallH.own (c2) ?_)
  all_goals apply hr
  all_goals simp [Try.f45]
theorem ints12_con (b : List UInt8) (l : List Int) (h : ∀ n ∈ l, okI n) (hl : l.length ≤ 3000000000) (hb : b.length ≤ 400000000000) : ACon Try.prog 46 [.p (.sl 1 (by8 b)), .p (.sl 1 (ints l))] (.p (.sl 1 (by8 (b ++ catZ ((l.length : Int) :: l))))) := by
  have h0 : okI (l.length : Int) := ⟨by omega, by omega⟩
  have h1 := enc_len10 (zz_lt h0)
  have c1 := (putInt01_con b l.length h0 (by omega)).toPure
  have c2 := nums12_con (b ++ enc (zz l.length)) l h hl (by rw [List.length_append]; omega)
  rw [List.append_assoc, show enc (zz (l.length : Int)) ++ catZ l = catZ ((l.length : Int) :: l) by simp [catZ]] at c2
  generalize b ++ catZ ((l.length : Int) :: l) = r at *
  generalize b ++ enc (zz (l.length : Int)) = x at *
  have hl' : l.length < 9223372036854775808 := by omega
  refine wBody Try.tab Try.mixed Try.func46 rfl rfl Try.ntmps46 (by simp) (by simp) fun Q hr hn => ?_
  repeat' first | (refine hK _ ?_; clear hK) | (refine hK _ _ ?_; clear hK) | (clear hK; refine hK _ ?_; clear hK) | (clear hK; clear hK; refine hK _ ?_; clear hK) | (clear hK; clear hK; clear hK; refine hK _ ?_; clear hK) | (clear hK; clear hK; clear hK; clear hK; refine hK _ ?_; clear hK) | (refine wSeq fun K hK => ?_) | ((first | refine wReg ?_ | refine wDrwQ rfl (by kernel_rfl) ?_ | refine wDrwI ?_ | refine wDrw (by kernel_rfl) ?_); simp only [List.map_cons, List.map_nil, strip]) | ((first | refine wIs fun K hK => ?_ | refine wOs fun K hK => ?_ | refine wQs fun K hK => ?_ | refine CallK_plain ?_ | refine CallQ_plain ?_ | refine CallR_plain ?_ | refine wCond ?_); simp [hl']) | (refine wIn ?_; refine And.intro (by kernel_rfl) ?_; try simp only [thenA_n]) | (first | refine wBlock ?_ | refine wScope ?_) | ((first | refine wRet ?_ | refine wExit ?_ | refine wSkip ?_); try simp) | ((first | refine wLabel ?_ | refine wOn ?_ | refine wQn ?_); try simp only [thenA_n]) | (refine CallE.pure (c1) rfl ?_) | (refine CallE.lent (c1) rfl ?_) | (refine CallF.pure (c1) rfl ?_) | (refine CallF.lent (c1) rfl ?_) | (refine CallE.own (c1) ?_) | (refine CallH.pure (c1) rfl ?_) | (refine CallH.lent (c1) rfl ?_) | (refine CallH.own (c1) ?_) | (refine CallE.pure (c2) rfl ?_) | (refine CallE.lent (c2) rfl ?_) | (refine CallF.pure (c2) rfl ?_) | (refine CallF.lent (c2) rfl ?_) | (refine CallE.own (c2) ?_) | (refine CallH.pure (c2) rfl ?_) | (refine CallH.lent (c2) rfl ?_) | (refine CallH.own (c2) ?_)
  all_goals apply hr
  all_goals simp [Try.f46]
theorem flag12_con (b : Bool) : ACon Try.prog 43 [.p (B b)] (.p (I (if b = true then 1 else 0))) := by
  cases b
  all_goals
    refine wBody Try.tab Try.mixed Try.func43 rfl rfl Try.ntmps43 (by simp) (by simp) fun Q hr hn => ?_
    repeat' first | (refine hK _ ?_; clear hK) | (refine hK _ _ ?_; clear hK) | (clear hK; refine hK _ ?_; clear hK) | (clear hK; clear hK; refine hK _ ?_; clear hK) | (clear hK; clear hK; clear hK; refine hK _ ?_; clear hK) | (clear hK; clear hK; clear hK; clear hK; refine hK _ ?_; clear hK) | (refine wSeq fun K hK => ?_) | ((first | refine wReg ?_ | refine wDrwQ rfl (by kernel_rfl) ?_ | refine wDrwI ?_ | refine wDrw (by kernel_rfl) ?_); simp only [List.map_cons, List.map_nil, strip]) | ((first | refine wIs fun K hK => ?_ | refine wOs fun K hK => ?_ | refine wQs fun K hK => ?_ | refine CallK_plain ?_ | refine CallQ_plain ?_ | refine CallR_plain ?_ | refine wCond ?_); simp) | (refine wIn ?_; refine And.intro (by kernel_rfl) ?_; try simp only [thenA_n]) | (first | refine wBlock ?_ | refine wScope ?_) | ((first | refine wRet ?_ | refine wExit ?_ | refine wSkip ?_); try simp) | ((first | refine wLabel ?_ | refine wOn ?_ | refine wQn ?_); try simp only [thenA_n])
    all_goals apply hr
    all_goals simp [Try.f43]
/- Records, the document's: texts, members, nodes, configs. -/
theorem zzl (n : Nat) (h : n ≤ 1000000000000) : okI (n : Int) := ⟨by omega, by omega⟩
theorem putText12_con (b s : List UInt8) (h : b.length ≤ 400000000000) (hs : s.length ≤ 4000000000) : BCon 41 [.p (.sl 1 (by8 b)), .p (SB s)] (b ++ (enc (zz s.length) ++ s)) := by
  have c1 := putInt01_con b s.length (zzl _ (by omega)) (by omega)
  have hel := enc_len10 (zz_lt (zzl s.length (by omega)))
  have hx := by8_app (b ++ enc (zz s.length)) s
  have hbm : (s.map fun b => [PV.v (.int .u8 b.toNat)]) = by8 s := rfl
  rw [List.append_assoc] at hx
  generalize enc (zz s.length) = z at c1 hel hx ⊢
  refine wBodyR Try.tab Try.mixed Try.func41 rfl rfl Try.ntmps41 rfl (by simp) (by simp) fun Q hr hn => ?_
  repeat' first | (refine And.intro (by omega) ?_) | (refine hK _ ?_; clear hK) | (refine hK _ _ ?_; clear hK) | (clear hK; refine hK _ ?_; clear hK) | (clear hK; clear hK; refine hK _ ?_; clear hK) | (clear hK; clear hK; clear hK; refine hK _ ?_; clear hK) | (clear hK; clear hK; clear hK; clear hK; refine hK _ ?_; clear hK) | (refine wSeq fun K hK => ?_) | ((first | refine wReg ?_ | refine wDrwQ rfl (by kernel_rfl) ?_ | refine wDrwI ?_ | refine wDrw (by kernel_rfl) ?_); simp only [List.map_cons, List.map_nil, strip]) | ((first | refine wIs fun K hK => ?_ | refine wOs fun K hK => ?_ | refine wQs fun K hK => ?_ | refine CallK_plain ?_ | refine CallQ_plain ?_ | refine CallR_plain ?_ | refine wCond ?_); simp) | (refine wIn ?_; refine And.intro (by kernel_rfl) ?_; try simp only [thenA_n]) | (first | refine wBlock ?_ | refine wScope ?_) | ((first | refine wRet ?_ | refine wExit ?_ | refine wSkip ?_); try simp) | ((first | refine wLabel ?_ | refine wOn ?_ | refine wQn ?_); try simp only [thenA_n]) | (refine CallE.pure (c1) rfl ?_) | (refine CallE.lent (c1) rfl ?_) | (refine CallF.pure (c1) rfl ?_) | (refine CallF.lent (c1) rfl ?_) | (refine CallE.own (c1) ?_) | (refine CallH.pure (c1) rfl ?_) | (refine CallH.lent (c1) rfl ?_) | (refine CallH.own (c1) ?_)
  all_goals refine hr _ 8 ?_ ?_ (by omega)
  all_goals simp [Try.f41, hbm, hx]
/-- The bytes of a text. -/
def txB (s : List UInt8) : List UInt8 := enc (zz s.length) ++ s
theorem text12_con (b s : List UInt8) (h : b.length ≤ 400000000000) (hs : s.length ≤ 4000000000) : ACon Try.prog 41 [.p (.sl 1 (by8 b)), .p (SB s)] (.p (.sl 1 (by8 (b ++ txB s)))) := (putText12_con b s h hs).toPure
structure OkMr (m : Mb) : Prop where
  i : okI m.i
  r : okI m.r
  w : okI m.w
  g : okI m.g
/- Records, the document's: numbers, texts, places, nodes, members, configs. -/
theorem catZ2 (a b : Int) : catZ [a, b] = foI.en [I a] ++ foI.en [I b] := by simp [catZ]
theorem catZ3 (a b c : Int) : catZ [a, b, c] = foI.en [I a] ++ (foI.en [I b] ++ foI.en [I c]) := by simp [catZ]
def flO (x : Bool) : Int := if x = true then 1 else 0
theorem flO_ok (x : Bool) : okI (flO x) := by cases x <;> exact ⟨by decide, by decide⟩
theorem catZ4 (a b c d : Int) : catZ [a, b, c, d] = foI.en [I a] ++ (foI.en [I b] ++ (foI.en [I c] ++ foI.en [I d])) := by simp [catZ]
theorem catZ6 (a b c d e f : Int) : catZ [a, b, c, d, e, f] = foI.en [I a] ++ (foI.en [I b] ++ (foI.en [I c] ++ (foI.en [I d] ++ (foI.en [I e] ++ foI.en [I f])))) := by simp [catZ]
abbrev DCon (g : FuncId) (b : List UInt8) (v : V) (r : List UInt8) : Prop := ACon Try.prog g [.p (.sl 1 (by8 b)), v] (.p (.sl 1 (by8 r)))
theorem dLen (b : List UInt8) (n : Nat) (ho : okI (n : Int)) (h : (b ++ enc (zz (n : Int))).length ≤ 3000000000) : DCon 42 b (.p (I n)) (b ++ enc (zz (n : Int))) :=
  (putInt01_con b n ho (by rw [List.length_append] at h; omega)).toPure
theorem dInt (b : List UInt8) (n : Int) (ho : foI.ok [I n]) (h : (b ++ foI.en [I n]).length ≤ 3000000000) : DCon 42 b (.p (I n)) (b ++ foI.en [I n]) :=
  (putInt01_con b n (foI_ok.1 ho) (by rw [List.length_append] at h; omega)).toPure
theorem dText (b s : List UInt8) (ho : foS.ok [SB s]) (h : (b ++ foS.en [SB s]).length ≤ 3000000000) : DCon 41 b (.p (SB s)) (b ++ foS.en [SB s]) := by
  rw [foS_en] at h ⊢
  simp only [List.length_append] at h
  exact text12_con b s (by omega) (by omega)
theorem dNums (b : List UInt8) (l : List Int) (ho : ∀ n ∈ l, okI n) (hl : l.length ≤ 1000) (h : (b ++ catZ l).length ≤ 3000000000) : DCon 40 b (.p (.sl 1 (ints l))) (b ++ catZ l) :=
  nums12_con b l ho (by omega) (by rw [List.length_append] at h; omega)
theorem dZx (b : List UInt8) (cs : List PV) (hk : fZx.ok cs) (h : (b ++ fZx.en cs).length ≤ 3000000000) : DCon 45 b (vOf cs) (b ++ fZx.en cs) := by
  obtain ⟨e, n, rfl, k0, k1⟩ := fZx_sh hk
  rw [fZx_en, ← catZ2] at h ⊢
  exact zxid12_con b e n (foI_ok.1 k0) (foI_ok.1 k1) (by rw [List.length_append] at h; omega)
theorem rows_ints {rows : List (List PV)} (h : ∀ r ∈ rows, foI.ok r) : ∃ l, rows = ints l ∧ ∀ n ∈ l, okI n := by
  induction rows with
  | nil => exact ⟨[], rfl, by simp⟩
  | cons r rows ih =>
    obtain ⟨l, rfl, hl⟩ := ih fun x hx => h x (List.mem_cons_of_mem _ hx)
    obtain ⟨n, rfl, hn⟩ := h r List.mem_cons_self
    refine ⟨n :: l, rfl, fun m hm => ?_⟩
    rcases List.mem_cons.1 hm with rfl | hm
    · exact hn
    · exact hl m hm
theorem catZ_ge (l : List Int) : l.length ≤ (catZ l).length := by
  induction l with
  | nil => simp
  | cons n l ih =>
    have := enc_pos (zz n)
    show _ ≤ (enc (zz n) ++ catZ l).length
    rw [List.length_append, List.length_cons]; omega
theorem dlI (b : List UInt8) (rows : List (List PV)) (hk : (fl 1 foI).ok [.sl 1 rows]) (h : (b ++ (fl 1 foI).en [.sl 1 rows]).length ≤ 3000000000) : DCon 46 b (.p (.sl 1 rows)) (b ++ (fl 1 foI).en [.sl 1 rows]) := by
  obtain ⟨hl, ho⟩ := fl_ok hk
  obtain ⟨l, rfl, hl2⟩ := rows_ints ho
  have he : (fl 1 foI).en [.sl 1 (ints l)] = catZ ((l.length : Int) :: l) := by
    rw [fl_en, ints_len]
    show _ = enc (zz (l.length : Int)) ++ catZ l
    congr 1
    have : ∀ l : List Int, (ints l).flatMap foI.en = catZ l := by
      intro l
      induction l with
      | nil => rfl
      | cons n l ih => show foI.en [I n] ++ (ints l).flatMap foI.en = enc (zz n) ++ catZ l; rw [ih]; rfl
    exact this l
  rw [he] at h ⊢
  have hg : l.length ≤ (catZ l).length := catZ_ge l
  have h2 : (catZ ((l.length : Int) :: l)).length = (enc (zz (l.length : Int))).length + (catZ l).length := by show (enc (zz (l.length : Int)) ++ catZ l).length = _; rw [List.length_append]
  rw [List.length_append, h2] at h
  exact ints12_con b l hl2 (by omega) (by omega)
set_option maxHeartbeats 4000000 in
theorem dlMb (b : List UInt8) (rows : List (List PV)) (hk : (fl 4 fMb).ok [.sl 4 rows]) (h : (b ++ (fl 4 fMb).en [.sl 4 rows]).length ≤ 3000000000) : ACon Try.prog 44 [.p (.sl 1 (by8 b)), .p (.sl 4 rows)] (.p (.sl 1 (by8 (b ++ (fl 4 fMb).en [.sl 4 rows])))) := by
  obtain ⟨hl, ho⟩ := fl_ok hk
  have hL : okI (rows.length : Int) := ⟨by omega, by omega⟩
  have hres : b ++ (fl 4 fMb).en [.sl 4 rows] = b ++ enc (zz (rows.length : Int)) ++ rows.flatMap fMb.en := by simp only [fl_en, catZ2, catZ3, catZ4, catZ6, foI_en, List.append_assoc]
  rw [hres] at h ⊢
  clear hres
  have c0 := dLen b _ hL (by simp only [List.length_append] at h ⊢; omega)
  have hM : (b ++ enc (zz (rows.length : Int)) ++ rows.flatMap fMb.en).length ≤ 3000000000 := by simp only [List.length_append] at h ⊢; omega
  generalize hX : b ++ enc (zz (rows.length : Int)) = X at *
  clear hX
  have hl' : rows.length < 9223372036854775808 := by omega
  try simp only [ints, List.map_cons, List.map_nil] at *
  refine wBody Try.tab Try.mixed Try.func44 rfl rfl Try.ntmps44 (by simp) (by simp) fun Q hr hn => ?_
  repeat' first | (refine hK _ ?_; clear hK) | (refine hK _ _ ?_; clear hK) | (clear hK; refine hK _ ?_; clear hK) | (clear hK; clear hK; refine hK _ ?_; clear hK) | (clear hK; clear hK; clear hK; refine hK _ ?_; clear hK) | (clear hK; clear hK; clear hK; clear hK; refine hK _ ?_; clear hK) | (refine wSeq fun K hK => ?_) | ((first | refine wReg ?_ | refine wDrwQ rfl (by kernel_rfl) ?_ | refine wDrwI ?_ | refine wDrw (by kernel_rfl) ?_); simp only [List.map_cons, List.map_nil, strip]) | ((first | refine wIs fun K hK => ?_ | refine wOs fun K hK => ?_ | refine wQs fun K hK => ?_ | refine CallK_plain ?_ | refine CallQ_plain ?_ | refine CallR_plain ?_ | refine wCond ?_); simp [hl']) | (refine wIn ?_; refine And.intro (by kernel_rfl) ?_; try simp only [thenA_n]) | (first | refine wBlock ?_ | refine wScope ?_) | ((first | refine wRet ?_ | refine wExit ?_ | refine wSkip ?_); try simp) | ((first | refine wLabel ?_ | refine wOn ?_ | refine wQn ?_); try simp only [thenA_n]) | (refine CallE.pure (c0) rfl ?_) | (refine CallE.lent (c0) rfl ?_) | (refine CallF.pure (c0) rfl ?_) | (refine CallF.lent (c0) rfl ?_) | (refine CallE.own (c0) ?_) | (refine CallH.pure (c0) rfl ?_) | (refine CallH.lent (c0) rfl ?_) | (refine CallH.own (c0) ?_)
  refine wLoop (fun N st => ∃ k, k + N = rows.length ∧ st.s 0 = .p (.sl 1 (by8 (X ++ (rows.take k).flatMap fMb.en))) ∧ st.s 11 = .p (.sl 4 rows) ∧ st.s 12 = .p (I rows.length) ∧ st.s 13 = .p (I k)) rows.length ⟨0, by simp⟩ fun K N st hL2 ⟨k, hk, g0, gl, gn, gi⟩ => ?_
  by_cases hlt : k < rows.length
  · have hlt' : (k : Int) < rows.length := by omega
    have hw := wrapS k _ hlt (by omega)
    have hok := ho rows[k] (List.getElem_mem hlt)
    have hgoal : X ++ (rows.take (k + 1)).flatMap fMb.en = X ++ (rows.take k).flatMap fMb.en ++ fMb.en rows[k] := by rw [flatMap_snoc hlt, List.append_assoc]
    have hpl2 : (X ++ (rows.take k).flatMap fMb.en ++ fMb.en rows[k]).length ≤ 3000000000 := by rw [← hgoal]; have := flatMap_take_le fMb.en rows (k + 1); simp only [List.length_append] at hM ⊢; omega
    have he : rows[k]? = some rows[k] := List.getElem?_eq_getElem hlt
    generalize hQ : rows[k] = r at *
    generalize X ++ (rows.take k).flatMap fMb.en = Y at *
    obtain ⟨z0, z1, z2, z3, rfl, m0, m1, m2, m3⟩ := fMb_sh hok
    have hin : Y ++ fMb.en [I z0, I z1, I z2, I z3] = Y ++ catZ [z0, z1, z2, z3] := by rw [fMb_en]; simp only [catZ3, catZ4, foI_en, foB_en, flO, List.append_assoc]
    rw [hin] at hgoal hpl2
    clear hin
    have d0 := dNums Y [z0, z1, z2, z3] (by intro n hn; simp at hn; rcases hn with rfl | rfl | rfl | rfl <;> first | exact hL | exact flO_ok _ | (simp only [← foI_ok]; assumption)) (by simp) (by simp only [List.length_append] at hpl2 ⊢; omega)
    generalize Y ++ catZ [z0, z1, z2, z3] = Y1 at *
    try simp only [vOf2, ints, List.map_cons, List.map_nil] at *
    repeat' first | (refine hK _ ?_; clear hK) | (refine hK _ _ ?_; clear hK) | (clear hK; refine hK _ ?_; clear hK) | (clear hK; clear hK; refine hK _ ?_; clear hK) | (clear hK; clear hK; clear hK; refine hK _ ?_; clear hK) | (clear hK; clear hK; clear hK; clear hK; refine hK _ ?_; clear hK) | (refine wSeq fun K hK => ?_) | ((first | refine wReg ?_ | refine wDrwQ rfl (by kernel_rfl) ?_ | refine wDrwI ?_ | refine wDrw (by kernel_rfl) ?_); simp only [List.map_cons, List.map_nil, strip]) | ((first | refine wIs fun K hK => ?_ | refine wOs fun K hK => ?_ | refine wQs fun K hK => ?_ | refine CallK_plain ?_ | refine CallQ_plain ?_ | refine CallR_plain ?_ | refine wCond ?_); simp [g0, gl, gn, gi, hlt, hlt', hw, he, hQ]) | (refine wIn ?_; refine And.intro (by kernel_rfl) ?_; try simp only [thenA_n]) | (first | refine wBlock ?_ | refine wScope ?_) | ((first | refine wRet ?_ | refine wExit ?_ | refine wSkip ?_); try simp) | ((first | refine wLabel ?_ | refine wOn ?_ | refine wQn ?_); try simp only [thenA_n]) | (refine CallE.pure (d0) rfl ?_) | (refine CallE.lent (d0) rfl ?_) | (refine CallF.pure (d0) rfl ?_) | (refine CallF.lent (d0) rfl ?_) | (refine CallE.own (d0) ?_) | (refine CallH.pure (d0) rfl ?_) | (refine CallH.lent (d0) rfl ?_) | (refine CallH.own (d0) ?_)
    refine hL2 _ (N - 1) (by omega) ⟨k + 1, by omega, ?_⟩
    rw [hgoal]
    simp [g0, gl, gn, gi, hw]
  · have hlt' : ¬ (k : Int) < rows.length := by omega
    rw [List.take_of_length_le (by omega)] at g0
    repeat' first | (refine hK _ ?_; clear hK) | (refine hK _ _ ?_; clear hK) | (clear hK; refine hK _ ?_; clear hK) | (clear hK; clear hK; refine hK _ ?_; clear hK) | (clear hK; clear hK; clear hK; refine hK _ ?_; clear hK) | (clear hK; clear hK; clear hK; clear hK; refine hK _ ?_; clear hK) | (refine wSeq fun K hK => ?_) | ((first | refine wReg ?_ | refine wDrwQ rfl (by kernel_rfl) ?_ | refine wDrwI ?_ | refine wDrw (by kernel_rfl) ?_); simp only [List.map_cons, List.map_nil, strip]) | ((first | refine wIs fun K hK => ?_ | refine wOs fun K hK => ?_ | refine wQs fun K hK => ?_ | refine CallK_plain ?_ | refine CallQ_plain ?_ | refine CallR_plain ?_ | refine wCond ?_); simp [g0, gl, gn, gi, hlt, hlt']) | (refine wIn ?_; refine And.intro (by kernel_rfl) ?_; try simp only [thenA_n]) | (first | refine wBlock ?_ | refine wScope ?_) | ((first | refine wRet ?_ | refine wExit ?_ | refine wSkip ?_); try simp) | ((first | refine wLabel ?_ | refine wOn ?_ | refine wQn ?_); try simp only [thenA_n])
    all_goals apply hr
    all_goals simp [Try.f44, g0]
/- Records, the document's: requests. -/
set_option maxHeartbeats 4000000 in
theorem dRq (b : List UInt8) (cs : List PV) (hk : fRq.ok cs) (h : (b ++ fRq.en cs).length ≤ 3000000000) : ACon Try.prog 28 [.p (.sl 1 (by8 b)), vOf cs] (.p (.sl 1 (by8 (b ++ fRq.en cs)))) := by
  obtain ⟨x0, x1, x2, x3, x4, x5, x6, x7, x8, rfl, k0, k1, k2, k3, k4, k5, k6, k7⟩ := fRq_sh hk
  obtain ⟨hl, ho⟩ := fl_ok k3
  have hL : okI (x3.length : Int) := ⟨by omega, by omega⟩
  have hres : b ++ fRq.en [I x0, I x1, I x2, .sl 6 x3, I x4, .sl 4 x5, .sl 1 x6, I x7, I x8] = b ++ catZ [x0, x1, x2, (x3.length : Int)] ++ x3.flatMap fOp.en ++ foI.en [I x4] ++ (fl 4 fMb).en [.sl 4 x5] ++ (fl 1 foI).en [.sl 1 x6] ++ fZx.en [I x7, I x8] := by simp only [fRq_en, fl_en, fVt_en, fPl_en, catZ2, catZ3, catZ4, catZ6, foI_en, List.append_assoc]
  rw [hres] at h ⊢
  clear hres
  have c0 := dNums b [x0, x1, x2, (x3.length : Int)] (by intro n hn; simp at hn; rcases hn with rfl | rfl | rfl | rfl <;> first | exact hL | exact flO_ok _ | (simp only [← foI_ok]; assumption)) (by simp) (by simp only [List.length_append] at h ⊢; omega)
  have e0 := dInt (b ++ catZ [x0, x1, x2, (x3.length : Int)] ++ x3.flatMap fOp.en) _ k4 (by simp only [List.length_append] at h ⊢; omega)
  have e1 := dlMb (b ++ catZ [x0, x1, x2, (x3.length : Int)] ++ x3.flatMap fOp.en ++ foI.en [I x4]) _ k5 (by simp only [List.length_append] at h ⊢; omega)
  have e2 := dlI (b ++ catZ [x0, x1, x2, (x3.length : Int)] ++ x3.flatMap fOp.en ++ foI.en [I x4] ++ (fl 4 fMb).en [.sl 4 x5]) _ k6 (by simp only [List.length_append] at h ⊢; omega)
  have e3 := dZx (b ++ catZ [x0, x1, x2, (x3.length : Int)] ++ x3.flatMap fOp.en ++ foI.en [I x4] ++ (fl 4 fMb).en [.sl 4 x5] ++ (fl 1 foI).en [.sl 1 x6]) _ k7 (by simp only [List.length_append] at h ⊢; omega)
  have hM : (b ++ catZ [x0, x1, x2, (x3.length : Int)] ++ x3.flatMap fOp.en).length ≤ 3000000000 := by simp only [List.length_append] at h ⊢; omega
  generalize b ++ catZ [x0, x1, x2, (x3.length : Int)] ++ x3.flatMap fOp.en ++ foI.en [I x4] ++ (fl 4 fMb).en [.sl 4 x5] ++ (fl 1 foI).en [.sl 1 x6] ++ fZx.en [I x7, I x8] = y4 at *
  generalize b ++ catZ [x0, x1, x2, (x3.length : Int)] ++ x3.flatMap fOp.en ++ foI.en [I x4] ++ (fl 4 fMb).en [.sl 4 x5] ++ (fl 1 foI).en [.sl 1 x6] = y3 at *
  generalize b ++ catZ [x0, x1, x2, (x3.length : Int)] ++ x3.flatMap fOp.en ++ foI.en [I x4] ++ (fl 4 fMb).en [.sl 4 x5] = y2 at *
  generalize b ++ catZ [x0, x1, x2, (x3.length : Int)] ++ x3.flatMap fOp.en ++ foI.en [I x4] = y1 at *
  generalize hX : b ++ catZ [x0, x1, x2, (x3.length : Int)] = X at *
  clear hX
  have hl' : x3.length < 9223372036854775808 := by omega
  simp only [vOf2]
  try simp only [ints, List.map_cons, List.map_nil] at *
  refine wBody Try.tab Try.mixed Try.func28 rfl rfl Try.ntmps28 (by simp) (by simp) fun Q hr hn => ?_
  repeat' first | (refine hK _ ?_; clear hK) | (refine hK _ _ ?_; clear hK) | (clear hK; refine hK _ ?_; clear hK) | (clear hK; clear hK; refine hK _ ?_; clear hK) | (clear hK; clear hK; clear hK; refine hK _ ?_; clear hK) | (clear hK; clear hK; clear hK; clear hK; refine hK _ ?_; clear hK) | (refine wSeq fun K hK => ?_) | ((first | refine wReg ?_ | refine wDrwQ rfl (by kernel_rfl) ?_ | refine wDrwI ?_ | refine wDrw (by kernel_rfl) ?_); simp only [List.map_cons, List.map_nil, strip]) | ((first | refine wIs fun K hK => ?_ | refine wOs fun K hK => ?_ | refine wQs fun K hK => ?_ | refine CallK_plain ?_ | refine CallQ_plain ?_ | refine CallR_plain ?_ | refine wCond ?_); simp [hl']) | (refine wIn ?_; refine And.intro (by kernel_rfl) ?_; try simp only [thenA_n]) | (first | refine wBlock ?_ | refine wScope ?_) | ((first | refine wRet ?_ | refine wExit ?_ | refine wSkip ?_); try simp) | ((first | refine wLabel ?_ | refine wOn ?_ | refine wQn ?_); try simp only [thenA_n]) | (refine CallE.pure (c0) rfl ?_) | (refine CallE.lent (c0) rfl ?_) | (refine CallF.pure (c0) rfl ?_) | (refine CallF.lent (c0) rfl ?_) | (refine CallE.own (c0) ?_) | (refine CallH.pure (c0) rfl ?_) | (refine CallH.lent (c0) rfl ?_) | (refine CallH.own (c0) ?_)
  refine wLoop (fun N st => ∃ k, k + N = x3.length ∧ st.s 0 = .p (.sl 1 (by8 (X ++ (x3.take k).flatMap fOp.en))) ∧ st.s 3 = .ptr 3 0 ∧ st.b 3 = some (.box 40 [.p (I x0), .p (I x1), .p (I x2), .p (.sl 6 x3), .p (I x4), .p (.sl 4 x5), .p (.sl 1 x6), .p (I x7), .p (I x8)]) ∧ st.s 20 = .p (.sl 6 x3) ∧ st.s 21 = .p (I x3.length) ∧ st.s 22 = .p (I k)) x3.length ⟨0, by simp⟩ fun K N st hL2 ⟨k, hk, g0, g3, b3, gl, gn, gi⟩ => ?_
  by_cases hlt : k < x3.length
  · have hlt' : (k : Int) < x3.length := by omega
    have hw := wrapS k _ hlt (by omega)
    have hok := ho x3[k] (List.getElem_mem hlt)
    have hgoal : X ++ (x3.take (k + 1)).flatMap fOp.en = X ++ (x3.take k).flatMap fOp.en ++ fOp.en x3[k] := by rw [flatMap_snoc hlt, List.append_assoc]
    have hpl2 : (X ++ (x3.take k).flatMap fOp.en ++ fOp.en x3[k]).length ≤ 3000000000 := by rw [← hgoal]; have := flatMap_take_le fOp.en x3 (k + 1); simp only [List.length_append] at hM ⊢; omega
    have he : x3[k]? = some x3[k] := List.getElem?_eq_getElem hlt
    generalize hQ : x3[k] = r at *
    generalize X ++ (x3.take k).flatMap fOp.en = Y at *
    obtain ⟨z0, z1, z2, z3, z4, z5, rfl, m0, m1, m2, m3, m4, m5⟩ := fOp_sh hok
    have hin : Y ++ fOp.en [I z0, SB z1, SB z2, I z3, B z4, B z5] = Y ++ foI.en [I z0] ++ foS.en [SB z1] ++ foS.en [SB z2] ++ catZ [z3, flO z4, flO z5] := by rw [fOp_en]; simp only [catZ3, catZ4, foI_en, foB_en, flO, List.append_assoc]
    rw [hin] at hgoal hpl2
    clear hin
    have d0 := dInt Y _ m0 (by simp only [List.length_append] at hpl2 ⊢; omega)
    have d1 := dText (Y ++ foI.en [I z0]) _ m1 (by simp only [List.length_append] at hpl2 ⊢; omega)
    have d2 := dText (Y ++ foI.en [I z0] ++ foS.en [SB z1]) _ m2 (by simp only [List.length_append] at hpl2 ⊢; omega)
    have d3 := dNums (Y ++ foI.en [I z0] ++ foS.en [SB z1] ++ foS.en [SB z2]) [z3, flO z4, flO z5] (by intro n hn; simp at hn; rcases hn with rfl | rfl | rfl <;> first | exact hL | exact flO_ok _ | (simp only [← foI_ok]; assumption)) (by simp) (by simp only [List.length_append] at hpl2 ⊢; omega)
    generalize Y ++ foI.en [I z0] ++ foS.en [SB z1] ++ foS.en [SB z2] ++ catZ [z3, flO z4, flO z5] = Y4 at *
    generalize Y ++ foI.en [I z0] ++ foS.en [SB z1] ++ foS.en [SB z2] = Y3 at *
    generalize Y ++ foI.en [I z0] ++ foS.en [SB z1] = Y2 at *
    generalize Y ++ foI.en [I z0] = Y1 at *
    try simp only [vOf2, ints, List.map_cons, List.map_nil] at *
    repeat' first | (refine hK _ ?_; clear hK) | (refine hK _ _ ?_; clear hK) | (clear hK; refine hK _ ?_; clear hK) | (clear hK; clear hK; refine hK _ ?_; clear hK) | (clear hK; clear hK; clear hK; refine hK _ ?_; clear hK) | (clear hK; clear hK; clear hK; clear hK; refine hK _ ?_; clear hK) | (refine wSeq fun K hK => ?_) | ((first | refine wReg ?_ | refine wDrwQ rfl (by kernel_rfl) ?_ | refine wDrwI ?_ | refine wDrw (by kernel_rfl) ?_); simp only [List.map_cons, List.map_nil, strip]) | ((first | refine wIs fun K hK => ?_ | refine wOs fun K hK => ?_ | refine wQs fun K hK => ?_ | refine CallK_plain ?_ | refine CallQ_plain ?_ | refine CallR_plain ?_ | refine wCond ?_); simp [g0, g3, b3, gl, gn, gi, hlt, hlt', hw, he, hQ]) | (refine wIn ?_; refine And.intro (by kernel_rfl) ?_; try simp only [thenA_n]) | (first | refine wBlock ?_ | refine wScope ?_) | ((first | refine wRet ?_ | refine wExit ?_ | refine wSkip ?_); try simp) | ((first | refine wLabel ?_ | refine wOn ?_ | refine wQn ?_); try simp only [thenA_n]) | (refine CallE.pure (d0) rfl ?_) | (refine CallE.lent (d0) rfl ?_) | (refine CallF.pure (d0) rfl ?_) | (refine CallF.lent (d0) rfl ?_) | (refine CallE.own (d0) ?_) | (refine CallH.pure (d0) rfl ?_) | (refine CallH.lent (d0) rfl ?_) | (refine CallH.own (d0) ?_) | (refine CallE.pure (d1) rfl ?_) | (refine CallE.lent (d1) rfl ?_) | (refine CallF.pure (d1) rfl ?_) | (refine CallF.lent (d1) rfl ?_) | (refine CallE.own (d1) ?_) | (refine CallH.pure (d1) rfl ?_) | (refine CallH.lent (d1) rfl ?_) | (refine CallH.own (d1) ?_) | (refine CallE.pure (d2) rfl ?_) | (refine CallE.lent (d2) rfl ?_) | (refine CallF.pure (d2) rfl ?_) | (refine CallF.lent (d2) rfl ?_) | (refine CallE.own (d2) ?_) | (refine CallH.pure (d2) rfl ?_) | (refine CallH.lent (d2) rfl ?_) | (refine CallH.own (d2) ?_) | (refine CallE.pure (d3) rfl ?_) | (refine CallE.lent (d3) rfl ?_) | (refine CallF.pure (d3) rfl ?_) | (refine CallF.lent (d3) rfl ?_) | (refine CallE.own (d3) ?_) | (refine CallH.pure (d3) rfl ?_) | (refine CallH.lent (d3) rfl ?_) | (refine CallH.own (d3) ?_) | (refine CallE.pure (flag12_con _) rfl ?_) | (refine CallE.lent (flag12_con _) rfl ?_) | (refine CallF.pure (flag12_con _) rfl ?_) | (refine CallF.lent (flag12_con _) rfl ?_) | (refine CallE.own (flag12_con _) ?_) | (refine CallH.pure (flag12_con _) rfl ?_) | (refine CallH.lent (flag12_con _) rfl ?_) | (refine CallH.own (flag12_con _) ?_)
    refine hL2 _ (N - 1) (by omega) ⟨k + 1, by omega, ?_⟩
    rw [hgoal]
    simp [g0, g3, b3, gl, gn, gi, hw]
  · have hlt' : ¬ (k : Int) < x3.length := by omega
    rw [List.take_of_length_le (by omega)] at g0
    repeat' first | (refine hK _ ?_; clear hK) | (refine hK _ _ ?_; clear hK) | (clear hK; refine hK _ ?_; clear hK) | (clear hK; clear hK; refine hK _ ?_; clear hK) | (clear hK; clear hK; clear hK; refine hK _ ?_; clear hK) | (clear hK; clear hK; clear hK; clear hK; refine hK _ ?_; clear hK) | (refine wSeq fun K hK => ?_) | ((first | refine wReg ?_ | refine wDrwQ rfl (by kernel_rfl) ?_ | refine wDrwI ?_ | refine wDrw (by kernel_rfl) ?_); simp only [List.map_cons, List.map_nil, strip]) | ((first | refine wIs fun K hK => ?_ | refine wOs fun K hK => ?_ | refine wQs fun K hK => ?_ | refine CallK_plain ?_ | refine CallQ_plain ?_ | refine CallR_plain ?_ | refine wCond ?_); simp [g0, g3, b3, gl, gn, gi, hlt, hlt']) | (refine wIn ?_; refine And.intro (by kernel_rfl) ?_; try simp only [thenA_n]) | (first | refine wBlock ?_ | refine wScope ?_) | ((first | refine wRet ?_ | refine wExit ?_ | refine wSkip ?_); try simp) | ((first | refine wLabel ?_ | refine wOn ?_ | refine wQn ?_); try simp only [thenA_n]) | (refine CallE.pure (e0) rfl ?_) | (refine CallE.lent (e0) rfl ?_) | (refine CallF.pure (e0) rfl ?_) | (refine CallF.lent (e0) rfl ?_) | (refine CallE.own (e0) ?_) | (refine CallH.pure (e0) rfl ?_) | (refine CallH.lent (e0) rfl ?_) | (refine CallH.own (e0) ?_) | (refine CallE.pure (e1) rfl ?_) | (refine CallE.lent (e1) rfl ?_) | (refine CallF.pure (e1) rfl ?_) | (refine CallF.lent (e1) rfl ?_) | (refine CallE.own (e1) ?_) | (refine CallH.pure (e1) rfl ?_) | (refine CallH.lent (e1) rfl ?_) | (refine CallH.own (e1) ?_) | (refine CallE.pure (e2) rfl ?_) | (refine CallE.lent (e2) rfl ?_) | (refine CallF.pure (e2) rfl ?_) | (refine CallF.lent (e2) rfl ?_) | (refine CallE.own (e2) ?_) | (refine CallH.pure (e2) rfl ?_) | (refine CallH.lent (e2) rfl ?_) | (refine CallH.own (e2) ?_) | (refine CallE.pure (e3) rfl ?_) | (refine CallE.lent (e3) rfl ?_) | (refine CallF.pure (e3) rfl ?_) | (refine CallF.lent (e3) rfl ?_) | (refine CallE.own (e3) ?_) | (refine CallH.pure (e3) rfl ?_) | (refine CallH.lent (e3) rfl ?_) | (refine CallH.own (e3) ?_)
    all_goals apply hr
    all_goals simp [Try.f28, g0]
end Go.Proofs.Ytefhnofdfnmiaaa
