/- Texts that the proof needs: RGO RWA RG3 RG3a RG3b RG3c. -/
import Derived.Test.YtleejpddecjhcaaP20RecW
import Derived.Test.YtleejpddecjhcaaP22RecW
import Derived.Test.YtleejpddecjhcaaP19RecW
import Derived.Test.YtleejpddecjhcaaP14RecW
/- Records: what comes in, opened. -/
namespace Go.Proofs.Ytleejpddecjhcaa
set_option linter.unusedSimpArgs false
set_option linter.unusedVariables false
set_option maxRecDepth 8000
open Go Go.Av Go.ChangeShapes Go.WideShapes Go.ChangeAt Go.RowKit
/-- How many bytes an element of so many cells has at least. -/
def KB (c : Nat) : Nat := 1
theorem hpos : PosK Try.T KB := by
  intro t yt e y h hk hy hs
  unfold Try.T at h
  split at h
  all_goals first | (cases h; done) | (cases h; cases hk; done) | (cases h; cases hk; cases hy; done) | (cases h; cases hk; cases hy; first | exact of_decide_eq_true (by kernel_rfl) | (simp at hs; done))
abbrev Zd (ps : List PV) : Prop := ∀ p ∈ ps, SzI KB reachBytes p
theorem reach47 : reachBytes ≤ 140737488355328 := by decide
theorem zd_len {p : PV} (h : SzI KB reachBytes p) : lenP p ≤ 140737488355328 := by
  have hr := reach47
  cases h with
  | v x h =>
    cases x
    case string s =>
      have := h s rfl
      have h1 : s.data.toList.length = s.size := Array.length_toList
      show s.data.toList.length ≤ _; omega
    all_goals exact Nat.zero_le _
  | sl c l hl h => have : l.length * 1 ≤ reachBytes := hl; show l.length ≤ _; omega
  | agg l h => exact Nat.zero_le _
abbrev FoS (f : Fo) (E : List Lf) : Prop := ∀ ps, ShL E ps → Zd ps → f.ok ps
theorem foI_S : FoS foI [.int .i64] := fun ps h hz => by
  obtain ⟨p, _, rfl, h0, h⟩ := h.cons
  obtain rfl := h.nil
  obtain ⟨n, rfl, hn⟩ := h0.intI
  refine ⟨n, rfl, ?_⟩
  simp only [Lit.wf, Bool.and_eq_true, decide_eq_true_eq] at hn
  have h1 : IntKind.i64.min = -9223372036854775808 := by decide
  have h2 : IntKind.i64.max = 9223372036854775807 := by decide
  unfold okI; omega
theorem foS_S : FoS foS [.str] := fun ps h hz => by
  obtain ⟨p, _, rfl, h0, h⟩ := h.cons
  obtain rfl := h.nil
  obtain ⟨s, rfl, hs⟩ := h0.strI
  have h1 : s.data.toList.length = s.size := Array.length_toList
  have h2 : maxLen = 9223372036854775807 := rfl
  exact ⟨s.data.toList, by show [PV.v (.string s)] = [PV.v (.string ⟨s.data.toList.toArray⟩)]; rw [Array.toArray_toList], by omega⟩
theorem foB_S : FoS foB [.bool] := fun ps h hz => by
  obtain ⟨p, _, rfl, h0, h⟩ := h.cons
  obtain rfl := h.nil
  obtain ⟨x, rfl⟩ := h0.boolI
  exact ⟨x, rfl⟩
theorem shl_parts {E E' : List Lf} {ps : List PV} (h : ShL (E ++ E') ps) : ShL E (ps.take E.length) ∧ ShL E' (ps.drop E.length) := by
  obtain ⟨h1, h2⟩ := h
  rw [List.length_append] at h1
  refine ⟨⟨by rw [List.length_take]; omega, fun j f p hf hp => ?_⟩, ⟨by rw [List.length_drop]; omega, fun j f p hf hp => ?_⟩⟩
  · have hj : j < E.length := by rw [List.getElem?_eq_some_iff] at hf; exact hf.1
    refine h2 j f p (by rw [List.getElem?_append_left hj]; exact hf) ?_
    rw [List.getElem?_take] at hp
    rw [if_pos hj] at hp; exact hp
  · refine h2 (E.length + j) f p (by rw [List.getElem?_append_right (by omega)]; simpa using hf) ?_
    rw [List.getElem?_drop] at hp; exact hp
theorem sq_S {f g : Fo} {E E' : List Lf} (hf : FoS f E) (hg : FoS g E') (hn : f.n = E.length := by rfl) : FoS (sq f g) (E ++ E') := fun ps h hz => by
  obtain ⟨h1, h2⟩ := shl_parts h
  refine ⟨?_, ?_⟩
  · show f.ok (ps.take f.n); rw [hn]; exact hf _ h1 fun p hp => hz p (List.mem_of_mem_take hp)
  · show g.ok (ps.drop f.n); rw [hn]; exact hg _ h2 fun p hp => hz p (List.mem_of_mem_drop hp)
theorem fl_S {f : Fo} {E : List Lf} (hf : FoS f E) : FoS (fl E.length f) [.sl E] := fun ps h hz => by
  obtain ⟨p, _, rfl, h0, h⟩ := h.cons
  obtain rfl := h.nil
  obtain ⟨l, rfl⟩ := h0.slI (α := {e : List PV // ShL E e}) (f := fun a => a.val) fun ps h => ⟨⟨ps, h⟩, rfl⟩
  have hs := hz _ List.mem_cons_self
  have hb := zd_len hs
  refine ⟨_, rfl, by rw [lenP_sl] at hb; omega, fun r hr => ?_⟩
  obtain ⟨⟨e, he⟩, h1, rfl⟩ := List.mem_map.1 hr
  exact hf _ he fun p hp => hs.at hr hp
abbrev EZx : List Lf := [.int .i64, .int .i64]
theorem fZx_S : FoS fZx EZx := sq_S foI_S foI_S
abbrev EMb : List Lf := [.int .i64, .int .i64, .int .i64, .int .i64]
theorem fMb_S : FoS fMb EMb := sq_S foI_S (sq_S foI_S (sq_S foI_S foI_S))
abbrev ECf : List Lf := [.int .i64, .int .i64, .int .i64, .sl EMb]
theorem fCf_S : FoS fCf ECf := sq_S fZx_S (sq_S foI_S (fl_S fMb_S))
abbrev ENd : List Lf := [.str, .str, .int .i64, .int .i64, .int .i64]
theorem fNd_S : FoS fNd ENd := sq_S foS_S (sq_S foS_S (sq_S foI_S (sq_S foI_S foI_S)))
abbrev EPt : List Lf := [.int .i64, .str, .str, .int .i64, .int .i64, .int .i64, .int .i64, .int .i64, .int .i64, .int .i64, .sl EMb]
theorem fPt_S : FoS fPt EPt := sq_S foI_S (sq_S fNd_S (sq_S foI_S fCf_S))
abbrev ETx : List Lf := [.int .i64, .int .i64, .int .i64, .int .i64, .int .i64, .int .i64, .str, .sl EPt]
theorem fTx_S : FoS fTx ETx := sq_S fZx_S (sq_S foI_S (sq_S foI_S (sq_S foI_S (sq_S foI_S (sq_S foS_S (fl_S fPt_S))))))
abbrev ESt : List Lf := [.sl ENd, .sl [.int .i64], .int .i64, .int .i64, .int .i64, .int .i64, .sl EMb, .int .i64, .int .i64]
theorem fSt_S : FoS fSt ESt := sq_S (fl_S fNd_S) (sq_S (fl_S foI_S) (sq_S foI_S (sq_S fCf_S fZx_S)))
abbrev EOp : List Lf := [.int .i64, .str, .str, .int .i64, .bool, .bool]
theorem fOp_S : FoS fOp EOp := sq_S foI_S (sq_S foS_S (sq_S foS_S (sq_S foI_S (sq_S foB_S foB_S))))
abbrev ERq : List Lf := [.int .i64, .int .i64, .int .i64, .sl EOp, .int .i64, .sl EMb, .sl [.int .i64], .int .i64, .int .i64]
theorem fRq_S : FoS fRq ERq := sq_S foI_S (sq_S foI_S (sq_S foI_S (sq_S (fl_S fOp_S) (sq_S foI_S (sq_S (fl_S fMb_S) (sq_S (fl_S foI_S) fZx_S))))))
abbrev EVt : List Lf := [.int .i64, .int .i64, .int .i64, .int .i64, .int .i64, .int .i64, .int .i64]
theorem fVt_S : FoS fVt EVt := sq_S foI_S (sq_S foI_S (sq_S foI_S (sq_S fZx_S (sq_S foI_S foI_S))))
abbrev EPl : List Lf := [.int .i64, .int .i64, .int .i64, .sl ENd, .sl [.int .i64], .int .i64, .int .i64, .int .i64, .int .i64, .sl EMb, .int .i64, .int .i64, .sl ETx]
theorem fPl_S : FoS fPl EPl := sq_S foI_S (sq_S fZx_S (sq_S fSt_S (fl_S fTx_S)))
abbrev EMs : List Lf := [.int .i64, .int .i64, .int .i64, .int .i64, .int .i64, .int .i64, .int .i64, .int .i64, .int .i64, .int .i64, .int .i64, .int .i64, .int .i64, .int .i64, .sl EZx, .int .i64, .int .i64, .int .i64, .sl ENd, .sl [.int .i64], .int .i64, .int .i64, .int .i64, .int .i64, .sl EMb, .int .i64, .int .i64, .sl ETx, .int .i64, .int .i64, .int .i64, .int .i64, .int .i64, .int .i64, .str, .sl EPt, .sl [.int .i64], .int .i64, .int .i64, .int .i64, .sl EOp, .int .i64, .sl EMb, .sl [.int .i64], .int .i64, .int .i64]
theorem fMs_S : FoS fMs EMs := sq_S foI_S (sq_S foI_S (sq_S foI_S (sq_S fVt_S (sq_S foI_S (sq_S foI_S (sq_S fZx_S (sq_S (fl_S fZx_S) (sq_S fPl_S (sq_S fTx_S (sq_S (fl_S foI_S) fRq_S))))))))))
theorem by8_open {p : PV} (hp : ShT Try.T 22 p) : ∃ l, p = .sl 1 (by8 l) :=
  (hp.one (f := .sl [.int .u8]) rfl rfl rfl).slI (f := dcell) fun ps h => by
    obtain ⟨_, _, rfl, h0, h⟩ := h.cons
    obtain rfl := h.nil
    obtain ⟨n, rfl, hn⟩ := h0.intI
    simp only [Lit.wf, Bool.and_eq_true, decide_eq_true_eq] at hn
    have h1 : IntKind.u8.min = 0 := by decide
    have h2 : IntKind.u8.max = 255 := by decide
    refine ⟨UInt8.ofNat n.toNat, ?_⟩
    unfold dcell
    rw [UInt8.toNat_ofNat_of_lt' (by simp; omega), Int.toNat_of_nonneg (by omega)]
theorem zd_of {ps : List PV} (h : SzI KB reachBytes (.agg ps)) : Zd ps := fun p hp => h.part hp
theorem tx_open {p : PV} (hp : ShT Try.T 28 p) (hz : SzI KB reachBytes p) : ∃ cs, p = .agg cs ∧ fTx.ok cs ∧ Zd cs := by
  obtain ⟨ps, rfl, h⟩ := hp.agg (y := (Try.T 28).get rfl) rfl (E := ETx) (by kernel_rfl) rfl
  exact ⟨ps, rfl, fTx_S _ h (zd_of hz), zd_of hz⟩
theorem st_open {p : PV} (hp : ShT Try.T 35 p) (hz : SzI KB reachBytes p) : ∃ cs, p = .agg cs ∧ fSt.ok cs ∧ Zd cs := by
  obtain ⟨ps, rfl, h⟩ := hp.agg (y := (Try.T 35).get rfl) rfl (E := ESt) (by kernel_rfl) rfl
  exact ⟨ps, rfl, fSt_S _ h (zd_of hz), zd_of hz⟩
theorem ms_open {p : PV} (hp : ShT Try.T 57 p) (hz : SzI KB reachBytes p) : ∃ cs, p = .agg cs ∧ fMs.ok cs ∧ Zd cs := by
  obtain ⟨ps, rfl, h⟩ := hp.agg (y := (Try.T 57).get rfl) rfl (E := EMs) (by kernel_rfl) rfl
  exact ⟨ps, rfl, fMs_S _ h (zd_of hz), zd_of hz⟩
/-! ### The bounds that the laws' walks want -/
theorem bdTx_of {r : List PV} (hz : Zd r) : BdTx r := by
  intro m ps hm hps
  have h1 := hz m (List.mem_of_getElem? hm)
  have h2 := hz ps (List.mem_of_getElem? hps)
  refine ⟨zd_len h1, zd_len h2, fun q hq p d c hp hd hc => ?_⟩
  cases ps with
  | sl k l => exact ⟨zd_len (h2.at hq (List.mem_of_getElem? hp)), zd_len (h2.at hq (List.mem_of_getElem? hd)), zd_len (h2.at hq (List.mem_of_getElem? hc))⟩
  | v x => simp [rowsP] at hq
  | agg l => simp [rowsP] at hq
theorem bdN_of {i j k : Nat} {r : List PV} (hz : Zd r) : ∀ q ∈ rowsP ((r[k]?).getD (I 0)), BdN i j q := by
  intro q hq p d hp hd
  cases hk : r[k]? with
  | none => rw [hk] at hq; simp [rowsP] at hq
  | some x =>
    rw [hk] at hq
    have h1 := hz x (List.mem_of_getElem? hk)
    cases x with
    | sl c l => exact ⟨zd_len (h1.at hq (List.mem_of_getElem? hp)), zd_len (h1.at hq (List.mem_of_getElem? hd))⟩
    | v x => simp [rowsP] at hq
    | agg l => simp [rowsP] at hq
theorem len_of {r : List PV} (hz : Zd r) : ∀ p ∈ r, lenP p ≤ 140737488355328 := fun p hp => zd_len (hz p hp)
end Go.Proofs.Ytleejpddecjhcaa
/- Records laid: the writer's numbers and texts. -/
namespace Go.Proofs.Ytleejpddecjhcaa
set_option linter.unusedSimpArgs false
set_option linter.unusedVariables false
open Go Go.Av
attribute [local simp] Try.T1 Try.T2 Try.T3 Try.T4 Try.T5 Try.T9 Try.T12 Try.T15 Try.T16 Try.T17 Try.T21 Try.T22 Try.T24 Try.T25 Try.T26 Try.T28 Try.T29 Try.T30 Try.T31 Try.T33 Try.T35 Try.T36 Try.T37 Try.T38 Try.T39 Try.T40 Try.T41 Try.T42 Try.T43 Try.T44 Try.T45 Try.T47 Try.T48 Try.T50 Try.T51 Try.T53 Try.T55 Try.T57 Try.T58 Try.T59 Try.T60 Try.T61 Try.T63 Try.T64 Try.T66 Try.T67 Try.T69 Try.T70 Try.T71 Try.T73 Try.T75 Try.T76 Try.T78 Try.T80 Try.T82 Try.T83 Try.T84 Try.T85 Try.T86 Try.T87 Try.T88 Try.T89 Try.T90 Try.T91 Try.T92 Try.T93 Try.T94 Try.T95 Try.T96 Try.T97 Try.T98 Try.T99 Try.T100 Try.T101 Try.T102 Try.T103 Try.T104 Try.T105 Try.T106 Try.T107 Try.T108 Try.T109 Try.T111 Try.T112 Try.T113 Try.T114 Try.T115 Try.T116 Try.T117 Try.T119 Try.T120 Try.T121 Try.T122 Try.T123 Try.T124 Try.T125 Try.T126 Try.T127 Try.T128 Try.T129 Try.T130 Try.T131 Try.T132 Try.T133 Try.T134 Try.T136 Try.T137 Try.T138 Try.T139 Try.T140 Try.T141 Try.T142 Try.T143 Try.T144 Try.T145 Try.T146 Try.T147 Try.T148 Try.T149 Try.T150 Try.T151 Try.T152 Try.T153 Try.T154 Try.T155 Try.T156 Try.T157 Try.T158 Try.T160 Try.T161 Try.T162 Try.T163 Try.T164 Try.T165 Try.T166 Try.T167 Try.T168 Try.T169 Try.T170 Try.T171 Try.T172 Try.T173 Try.T174 Try.T175 Try.T176 Try.T177 Try.T178 Try.T179 Try.T180 Try.T181 Try.T182 Try.T183 Try.T184 Try.T185 Try.T186 Try.T187 Try.T188 Try.T189 Try.T190 Try.T191 Try.T192 Try.T194 Try.T195 Try.T197 Try.T198 Try.T199 Try.T200 Try.T201 Try.T202 Try.T203 Try.T205 Try.T206 Try.T209 Try.T212 Try.T215 Try.T216
attribute [local irreducible] Go.Av.CallK Go.Av.CallE Go.Av.CallQ Go.Av.CallF Go.Av.CallR Go.Av.CallH Go.Av.Con
/-- The writer with these bytes laid, as blocks handed over. -/
abbrev wB (l : List UInt8) : List Blk := [.box 136 [.row 1025], .row 5 1 (by8 l)]
abbrev WCon (g : FuncId) (args : List V) (l m : List UInt8) : Prop := Con Try.prog g (.ptr 1024 0 :: args) (wB l) (.ret (.tup []) [] (wB m))
theorem wnumber_con (l : List UInt8) (n : Int) (ho : okI n) (h : l.length ≤ 1000000000) : WCon 85 [.p (I n)] l (l ++ enc (zz n)) := by
  have c := (putInt_con [] n ho (by simp)).toPure
  rw [List.nil_append] at c
  have hel := enc_len10 (zz_lt ho)
  have hx := by8_app l (enc (zz n))
  generalize enc (zz n) = z at c hel hx ⊢
  simp only [show by8 [] = [] from rfl] at c
  refine wBodyG Try.tab Try.mixed Try.func85 rfl rfl Try.ntmps85 (by simp) (by simp) fun Q hr hn hp => ?_
  repeat' first | (refine And.intro (by (try simp only [by8_len]); omega) ?_) | (refine hK _ ?_; clear hK) | (refine hK _ _ ?_; clear hK) | (clear hK; refine hK _ ?_; clear hK) | (clear hK; clear hK; refine hK _ ?_; clear hK) | (clear hK; clear hK; clear hK; refine hK _ ?_; clear hK) | (clear hK; clear hK; clear hK; clear hK; refine hK _ ?_; clear hK) | (refine wSeq fun K hK => ?_) | ((first | refine wReg ?_ | refine wDrwQ rfl (by kernel_rfl) ?_ | refine wDrwI ?_ | refine wDrw (by kernel_rfl) ?_); simp only [List.map_cons, List.map_nil, strip]) | ((first | refine wIs fun K hK => ?_ | refine wOs fun K hK => ?_ | refine wQs fun K hK => ?_ | refine CallK_plain ?_ | refine CallQ_plain ?_ | refine CallR_plain ?_ | refine wCond ?_); simp [hx]) | (refine wIn ?_; refine And.intro (by kernel_rfl) ?_; try simp only [thenA_n]) | (first | refine wBlock ?_ | refine wScope ?_) | ((first | refine wRet ?_ | refine wExit ?_ | refine wSkip ?_); try simp) | ((first | refine wLabel ?_ | refine wOn ?_ | refine wQn ?_); try simp only [thenA_n]) | (refine CallE.pure (c) rfl ?_) | (refine CallE.lent (c) rfl ?_) | (refine CallF.pure (c) rfl ?_) | (refine CallF.lent (c) rfl ?_) | (refine CallE.own (c) ?_) | (refine CallH.pure (c) rfl ?_) | (refine CallH.lent (c) rfl ?_) | (refine CallH.own (c) ?_)
  all_goals first | apply hn | apply hr
  all_goals refine ⟨[], by simp, by simp, ?_⟩
  all_goals simp [Try.f85, outR, outB, renB, gaN, hx]
/-- A text laid: its length, and it. -/
def encX (x : List UInt8) : List UInt8 := enc (zz x.length) ++ x
theorem wtext_con (l x : List UInt8) (hx : x.length ≤ 100000000) (h : l.length ≤ 1000000000) : WCon 79 [.p (SB x)] l (l ++ encX x) := by
  have c := (putText_con [] x (by simp) hx).toPure
  rw [List.nil_append] at c
  have hel := enc_len10 (zz_lt (zz_len x.length (by omega)))
  have hlx : (encX x).length ≤ 100000010 := by unfold encX; rw [List.length_append]; omega
  change ACon _ _ [.p (.sl 1 (by8 [])), .p (SB x)] (.p (.sl 1 (by8 (encX x)))) at c
  have hx := by8_app l (encX x)
  generalize encX x = z at c hlx hx ⊢
  simp only [show by8 [] = [] from rfl] at c
  refine wBodyG Try.tab Try.mixed Try.func79 rfl rfl Try.ntmps79 (by simp) (by simp) fun Q hr hn hp => ?_
  repeat' first | (refine And.intro (by (try simp only [by8_len]); omega) ?_) | (refine hK _ ?_; clear hK) | (refine hK _ _ ?_; clear hK) | (clear hK; refine hK _ ?_; clear hK) | (clear hK; clear hK; refine hK _ ?_; clear hK) | (clear hK; clear hK; clear hK; refine hK _ ?_; clear hK) | (clear hK; clear hK; clear hK; clear hK; refine hK _ ?_; clear hK) | (refine wSeq fun K hK => ?_) | ((first | refine wReg ?_ | refine wDrwQ rfl (by kernel_rfl) ?_ | refine wDrwI ?_ | refine wDrw (by kernel_rfl) ?_); simp only [List.map_cons, List.map_nil, strip]) | ((first | refine wIs fun K hK => ?_ | refine wOs fun K hK => ?_ | refine wQs fun K hK => ?_ | refine CallK_plain ?_ | refine CallQ_plain ?_ | refine CallR_plain ?_ | refine wCond ?_); simp [hx]) | (refine wIn ?_; refine And.intro (by kernel_rfl) ?_; try simp only [thenA_n]) | (first | refine wBlock ?_ | refine wScope ?_) | ((first | refine wRet ?_ | refine wExit ?_ | refine wSkip ?_); try simp) | ((first | refine wLabel ?_ | refine wOn ?_ | refine wQn ?_); try simp only [thenA_n]) | (refine CallE.pure (c) rfl ?_) | (refine CallE.lent (c) rfl ?_) | (refine CallF.pure (c) rfl ?_) | (refine CallF.lent (c) rfl ?_) | (refine CallE.own (c) ?_) | (refine CallH.pure (c) rfl ?_) | (refine CallH.lent (c) rfl ?_) | (refine CallH.own (c) ?_)
  all_goals first | apply hn | apply hr
  all_goals refine ⟨[], by simp, by simp, ?_⟩
  all_goals simp [Try.f79, outR, outB, renB, gaN, hx]
/-! ### Numbers, one behind the other -/
def catI (l : List Int) : List UInt8 := l.flatMap fun n => enc (zz n)
theorem catI_snoc {l : List Int} {k : Nat} (h : k < l.length) : catI (l.take (k + 1)) = catI (l.take k) ++ enc (zz l[k]) := by
  rw [List.take_succ_eq_append_getElem h]; simp only [catI, List.flatMap_append, List.flatMap_cons, List.flatMap_nil, List.append_nil]
set_option maxHeartbeats 1000000 in
theorem wnumbers_con (b : List UInt8) (l : List Int) (ho : ∀ n ∈ l, okI n) (hl : l.length ≤ 1000000) (h : b.length ≤ 900000000) : WCon 78 [.p (.sl 1 (ints l))] b (b ++ catI l) := by
  refine wBodyG Try.tab Try.mixed Try.func78 rfl rfl Try.ntmps78 (by simp) (by simp) fun Q hr hn hp => ?_
  repeat' first | (refine hK _ ?_; clear hK) | (refine hK _ _ ?_; clear hK) | (clear hK; refine hK _ ?_; clear hK) | (clear hK; clear hK; refine hK _ ?_; clear hK) | (clear hK; clear hK; clear hK; refine hK _ ?_; clear hK) | (clear hK; clear hK; clear hK; clear hK; refine hK _ ?_; clear hK) | (refine wSeq fun K hK => ?_) | ((first | refine wReg ?_ | refine wDrwQ rfl (by kernel_rfl) ?_ | refine wDrwI ?_ | refine wDrw (by kernel_rfl) ?_); simp only [List.map_cons, List.map_nil, strip]) | ((first | refine wIs fun K hK => ?_ | refine wOs fun K hK => ?_ | refine wQs fun K hK => ?_ | refine CallK_plain ?_ | refine CallQ_plain ?_ | refine CallR_plain ?_ | refine wCond ?_); simp) | (refine wIn ?_; refine And.intro (by kernel_rfl) ?_; try simp only [thenA_n]) | (first | refine wBlock ?_ | refine wScope ?_) | ((first | refine wRet ?_ | refine wExit ?_ | refine wSkip ?_); try simp) | ((first | refine wLabel ?_ | refine wOn ?_ | refine wQn ?_); try simp only [thenA_n])
  refine wLoop (fun N st => ∃ k p, k + N = l.length ∧ p = b ++ catI (l.take k) ∧ p.length ≤ b.length + 10 * k ∧ st.s 0 = .ptr 1024 0 ∧ st.s 6 = .p (.sl 1 (ints l)) ∧ st.s 7 = .p (I l.length) ∧ st.s 8 = .p (I k) ∧ st.b 1024 = some (.box 136 [.row 1025]) ∧ st.b 1025 = some (.row 5 1 (by8 p))) l.length ⟨0, b, by simp [catI]⟩ fun K N st hL ⟨k, p, hk, hp, hpl, g0, g6, g7, g8, b0, b1⟩ => ?_
  by_cases hlt : k < l.length
  · have hlt' : (k : Int) < l.length := by omega
    have hw := wrapS k _ hlt (by omega)
    have he := ints_get hlt
    have hq1 : (ints l)[k]'(by simpa using hlt) = [I l[k]] := by simp [ints]
    have hon := ho l[k] (List.getElem_mem hlt)
    have c := wnumber_con p l[k] hon (by omega)
    have hel := enc_len10 (zz_lt hon)
    have hsn := catI_snoc hlt
    have hpp : p ++ enc (zz l[k]) = b ++ catI (l.take (k + 1)) := by rw [hsn, hp, List.append_assoc]
    have hpl2 : (p ++ enc (zz l[k])).length ≤ b.length + 10 * (k + 1) := by rw [List.length_append]; omega
    generalize p ++ enc (zz l[k]) = p2 at c hpp hpl2
    generalize l[k] = n at he hq1 c
    repeat' first | (refine CallK_gen [1024, 1025] c (by decide) (by decide) (by simp [blksOf, inN, pos, renB, ren0, b0, b1]) (by simp [argsG, argG, ren0, inN, pos, renCs, renC]) ⟨[], by simp, by simp, ?_⟩; simp [lv, ouN, kpI, kpR, pos, ren, ren0, renB, renC, renCs, b0, b1]) | (refine hK _ ?_; clear hK) | (refine hK _ _ ?_; clear hK) | (clear hK; refine hK _ ?_; clear hK) | (clear hK; clear hK; refine hK _ ?_; clear hK) | (clear hK; clear hK; clear hK; refine hK _ ?_; clear hK) | (clear hK; clear hK; clear hK; clear hK; refine hK _ ?_; clear hK) | (refine wSeq fun K hK => ?_) | ((first | refine wReg ?_ | refine wDrwQ rfl (by kernel_rfl) ?_ | refine wDrwI ?_ | refine wDrw (by kernel_rfl) ?_); simp only [List.map_cons, List.map_nil, strip]) | ((first | refine wIs fun K hK => ?_ | refine wOs fun K hK => ?_ | refine wQs fun K hK => ?_ | refine CallK_plain ?_ | refine CallQ_plain ?_ | refine CallR_plain ?_ | refine wCond ?_); simp [g0, g6, g7, g8, b0, b1, hlt, hlt', hw, he, hq1]) | (refine wIn ?_; refine And.intro (by kernel_rfl) ?_; try simp only [thenA_n]) | (first | refine wBlock ?_ | refine wScope ?_) | ((first | refine wRet ?_ | refine wExit ?_ | refine wSkip ?_); try simp) | ((first | refine wLabel ?_ | refine wOn ?_ | refine wQn ?_); try simp only [thenA_n])
    refine hL _ (N - 1) (by omega) ⟨k + 1, p2, by omega, hpp, hpl2, ?_⟩
    simp [g0, g6, g7, g8, b0, b1, hw, lv, ouN, kpI, kpR, pos, ren, ren0, renB, renC, renCs]
  · have hlt' : ¬ (k : Int) < l.length := by omega
    rw [List.take_of_length_le (by omega)] at hp
    subst hp
    repeat' first | (refine hK _ ?_; clear hK) | (refine hK _ _ ?_; clear hK) | (clear hK; refine hK _ ?_; clear hK) | (clear hK; clear hK; refine hK _ ?_; clear hK) | (clear hK; clear hK; clear hK; refine hK _ ?_; clear hK) | (clear hK; clear hK; clear hK; clear hK; refine hK _ ?_; clear hK) | (refine wSeq fun K hK => ?_) | ((first | refine wReg ?_ | refine wDrwQ rfl (by kernel_rfl) ?_ | refine wDrwI ?_ | refine wDrw (by kernel_rfl) ?_); simp only [List.map_cons, List.map_nil, strip]) | ((first | refine wIs fun K hK => ?_ | refine wOs fun K hK => ?_ | refine wQs fun K hK => ?_ | refine CallK_plain ?_ | refine CallQ_plain ?_ | refine CallR_plain ?_ | refine wCond ?_); simp [g0, g6, g7, g8, b0, b1, hlt, hlt']) | (refine wIn ?_; refine And.intro (by kernel_rfl) ?_; try simp only [thenA_n]) | (first | refine wBlock ?_ | refine wScope ?_) | ((first | refine wRet ?_ | refine wExit ?_ | refine wSkip ?_); try simp) | ((first | refine wLabel ?_ | refine wOn ?_ | refine wQn ?_); try simp only [thenA_n])
    all_goals first | apply hn | apply hr
    all_goals refine ⟨[], by simp, by simp, ?_⟩
    all_goals simp [Try.f78, outR, outB, renB, gaN, b0, b1]
end Go.Proofs.Ytleejpddecjhcaa
/- Records laid: numbers, texts, flags, places, members. -/
namespace Go.Proofs.Ytleejpddecjhcaa
set_option linter.unusedSimpArgs false
set_option linter.unusedVariables false
set_option maxRecDepth 8000
open Go Go.Av
attribute [local simp] Try.T1 Try.T2 Try.T3 Try.T4 Try.T5 Try.T9 Try.T12 Try.T15 Try.T16 Try.T17 Try.T21 Try.T22 Try.T24 Try.T25 Try.T26 Try.T28 Try.T29 Try.T30 Try.T31 Try.T33 Try.T35 Try.T36 Try.T37 Try.T38 Try.T39 Try.T40 Try.T41 Try.T42 Try.T43 Try.T44 Try.T45 Try.T47 Try.T48 Try.T50 Try.T51 Try.T53 Try.T55 Try.T57 Try.T58 Try.T59 Try.T60 Try.T61 Try.T63 Try.T64 Try.T66 Try.T67 Try.T69 Try.T70 Try.T71 Try.T73 Try.T75 Try.T76 Try.T78 Try.T80 Try.T82 Try.T83 Try.T84 Try.T85 Try.T86 Try.T87 Try.T88 Try.T89 Try.T90 Try.T91 Try.T92 Try.T93 Try.T94 Try.T95 Try.T96 Try.T97 Try.T98 Try.T99 Try.T100 Try.T101 Try.T102 Try.T103 Try.T104 Try.T105 Try.T106 Try.T107 Try.T108 Try.T109 Try.T111 Try.T112 Try.T113 Try.T114 Try.T115 Try.T116 Try.T117 Try.T119 Try.T120 Try.T121 Try.T122 Try.T123 Try.T124 Try.T125 Try.T126 Try.T127 Try.T128 Try.T129 Try.T130 Try.T131 Try.T132 Try.T133 Try.T134 Try.T136 Try.T137 Try.T138 Try.T139 Try.T140 Try.T141 Try.T142 Try.T143 Try.T144 Try.T145 Try.T146 Try.T147 Try.T148 Try.T149 Try.T150 Try.T151 Try.T152 Try.T153 Try.T154 Try.T155 Try.T156 Try.T157 Try.T158 Try.T160 Try.T161 Try.T162 Try.T163 Try.T164 Try.T165 Try.T166 Try.T167 Try.T168 Try.T169 Try.T170 Try.T171 Try.T172 Try.T173 Try.T174 Try.T175 Try.T176 Try.T177 Try.T178 Try.T179 Try.T180 Try.T181 Try.T182 Try.T183 Try.T184 Try.T185 Try.T186 Try.T187 Try.T188 Try.T189 Try.T190 Try.T191 Try.T192 Try.T194 Try.T195 Try.T197 Try.T198 Try.T199 Try.T200 Try.T201 Try.T202 Try.T203 Try.T205 Try.T206 Try.T209 Try.T212 Try.T215 Try.T216
attribute [local irreducible] Go.Av.CallK Go.Av.CallE Go.Av.CallQ Go.Av.CallF Go.Av.CallR Go.Av.CallH Go.Av.Con
theorem catI2 (a b : Int) : catI [a, b] = foI.en [I a] ++ foI.en [I b] := by simp [catI]
theorem catI3 (a b c : Int) : catI [a, b, c] = foI.en [I a] ++ (foI.en [I b] ++ foI.en [I c]) := by simp [catI]
theorem catI4 (a b c d : Int) : catI [a, b, c, d] = foI.en [I a] ++ (foI.en [I b] ++ (foI.en [I c] ++ foI.en [I d])) := by simp [catI]
theorem wnumF (b : List UInt8) (n : Int) (ho : foI.ok [I n]) (h : (b ++ foI.en [I n]).length ≤ 30000000) : WCon 85 [.p (I n)] b (b ++ foI.en [I n]) :=
  wnumber_con b n (foI_ok.1 ho) (by rw [List.length_append] at h; omega)
theorem wtextF (b s : List UInt8) (ho : foS.ok [SB s]) (h : (b ++ foS.en [SB s]).length ≤ 30000000) : WCon 79 [.p (SB s)] b (b ++ foS.en [SB s]) := by
  rw [foS_en] at h ⊢
  simp only [List.length_append] at h
  exact wtext_con b s (by omega) (by omega)
theorem wnumsF (b : List UInt8) (l : List Int) (ho : ∀ n ∈ l, okI n) (hl : l.length ≤ 1000) (h : (b ++ catI l).length ≤ 30000000) : WCon 78 [.p (.sl 1 (ints l))] b (b ++ catI l) :=
  wnumbers_con b l ho (by omega) (by rw [List.length_append] at h; omega)
theorem wflagF (b : List UInt8) (x : Bool) (ho : foB.ok [B x]) (h : (b ++ foB.en [B x]).length ≤ 30000000) : WCon 127 [.p (B x)] b (b ++ foB.en [B x]) := by
  rw [foB_en] at h ⊢
  cases x
  · have c0 := wnumF b 0 (foI_ok.2 ok0) h
    rw [foI_en] at c0
    rw [if_neg (by decide)] at h ⊢
    generalize b ++ enc (zz 0) = y at *
    refine wBodyG Try.tab Try.mixed Try.func127 rfl rfl Try.ntmps127 (by simp) (by simp) fun Q hr hn hp => ?_
    repeat' first | (refine CallK_gen [1024, 1025] c0 (by decide) (by decide) (by simp [blksOf, inN, pos, renB, ren0, ouN, lv, kpI, kpR]) (by simp [argsG, argG, ren0, inN, pos, renCs, renC]) ⟨[], by simp, by simp, ?_⟩; simp [lv, ouN, kpI, kpR, pos, ren, ren0, renB, renC, renCs]; clear c0) | (refine hK _ ?_; clear hK) | (refine hK _ _ ?_; clear hK) | (clear hK; refine hK _ ?_; clear hK) | (clear hK; clear hK; refine hK _ ?_; clear hK) | (clear hK; clear hK; clear hK; refine hK _ ?_; clear hK) | (clear hK; clear hK; clear hK; clear hK; refine hK _ ?_; clear hK) | (refine wSeq fun K hK => ?_) | ((first | refine wReg ?_ | refine wDrwQ rfl (by kernel_rfl) ?_ | refine wDrwI ?_ | refine wDrw (by kernel_rfl) ?_); simp only [List.map_cons, List.map_nil, strip]) | ((first | refine wIs fun K hK => ?_ | refine wOs fun K hK => ?_ | refine wQs fun K hK => ?_ | refine CallK_plain ?_ | refine CallQ_plain ?_ | refine CallR_plain ?_ | refine wCond ?_); simp [lv, ouN, kpI, kpR, pos, ren, ren0, renB, renC, renCs]) | (refine wIn ?_; refine And.intro (by kernel_rfl) ?_; try simp only [thenA_n]) | (first | refine wBlock ?_ | refine wScope ?_) | ((first | refine wRet ?_ | refine wExit ?_ | refine wSkip ?_); try simp) | ((first | refine wLabel ?_ | refine wOn ?_ | refine wQn ?_); try simp only [thenA_n])
    all_goals first | apply hn | apply hr
    all_goals refine ⟨[], by simp, by simp, ?_⟩
    all_goals simp [Try.f127, outR, outB, renB, gaN, lv, ouN, kpI, kpR, pos, ren, ren0, renC, renCs]
  · have c0 := wnumF b 1 (foI_ok.2 ⟨by decide, by decide⟩) h
    rw [foI_en] at c0
    rw [if_pos rfl] at h ⊢
    generalize b ++ enc (zz 1) = y at *
    refine wBodyG Try.tab Try.mixed Try.func127 rfl rfl Try.ntmps127 (by simp) (by simp) fun Q hr hn hp => ?_
    repeat' first | (refine CallK_gen [1024, 1025] c0 (by decide) (by decide) (by simp [blksOf, inN, pos, renB, ren0, ouN, lv, kpI, kpR]) (by simp [argsG, argG, ren0, inN, pos, renCs, renC]) ⟨[], by simp, by simp, ?_⟩; simp [lv, ouN, kpI, kpR, pos, ren, ren0, renB, renC, renCs]; clear c0) | (refine hK _ ?_; clear hK) | (refine hK _ _ ?_; clear hK) | (clear hK; refine hK _ ?_; clear hK) | (clear hK; clear hK; refine hK _ ?_; clear hK) | (clear hK; clear hK; clear hK; refine hK _ ?_; clear hK) | (clear hK; clear hK; clear hK; clear hK; refine hK _ ?_; clear hK) | (refine wSeq fun K hK => ?_) | ((first | refine wReg ?_ | refine wDrwQ rfl (by kernel_rfl) ?_ | refine wDrwI ?_ | refine wDrw (by kernel_rfl) ?_); simp only [List.map_cons, List.map_nil, strip]) | ((first | refine wIs fun K hK => ?_ | refine wOs fun K hK => ?_ | refine wQs fun K hK => ?_ | refine CallK_plain ?_ | refine CallQ_plain ?_ | refine CallR_plain ?_ | refine wCond ?_); simp [lv, ouN, kpI, kpR, pos, ren, ren0, renB, renC, renCs]) | (refine wIn ?_; refine And.intro (by kernel_rfl) ?_; try simp only [thenA_n]) | (first | refine wBlock ?_ | refine wScope ?_) | ((first | refine wRet ?_ | refine wExit ?_ | refine wSkip ?_); try simp) | ((first | refine wLabel ?_ | refine wOn ?_ | refine wQn ?_); try simp only [thenA_n])
    all_goals first | apply hn | apply hr
    all_goals refine ⟨[], by simp, by simp, ?_⟩
    all_goals simp [Try.f127, outR, outB, renB, gaN, lv, ouN, kpI, kpR, pos, ren, ren0, renC, renCs]
set_option maxHeartbeats 2000000 in
theorem wZx (b : List UInt8) (cs : List PV) (hk : fZx.ok cs) (h : (b ++ fZx.en cs).length ≤ 30000000) : WCon 52 [vOf cs] b (b ++ fZx.en cs) := by
  obtain ⟨x0, x1, rfl, k0, k1⟩ := fZx_sh hk
  have hres : b ++ fZx.en [I x0, I x1] = b ++ catI [x0, x1] := by rw [fZx_en]; simp only [catI2, catI3, catI4, List.append_assoc]
  rw [hres] at h ⊢
  clear hres
  have c0 := wnumsF b [x0, x1] (by intro n hn; simp at hn; rcases hn with rfl | rfl <;> simp only [← foI_ok] <;> assumption) (by simp) h
  generalize b ++ catI [x0, x1] = y1 at *
  simp only [vOf2, ints, List.map_cons, List.map_nil] at *
  refine wBodyG Try.tab Try.mixed Try.func52 rfl rfl Try.ntmps52 (by simp) (by simp) fun Q hr hn hp => ?_
  repeat' first | (refine CallK_gen [1024, 1025] c0 (by decide) (by decide) (by simp [blksOf, inN, pos, renB, ren0, ouN, lv, kpI, kpR]) (by simp [argsG, argG, ren0, inN, pos, renCs, renC]) ⟨[], by simp, by simp, ?_⟩; simp [lv, ouN, kpI, kpR, pos, ren, ren0, renB, renC, renCs]; clear c0) | (refine hK _ ?_; clear hK) | (refine hK _ _ ?_; clear hK) | (clear hK; refine hK _ ?_; clear hK) | (clear hK; clear hK; refine hK _ ?_; clear hK) | (clear hK; clear hK; clear hK; refine hK _ ?_; clear hK) | (clear hK; clear hK; clear hK; clear hK; refine hK _ ?_; clear hK) | (refine wSeq fun K hK => ?_) | ((first | refine wReg ?_ | refine wDrwQ rfl (by kernel_rfl) ?_ | refine wDrwI ?_ | refine wDrw (by kernel_rfl) ?_); simp only [List.map_cons, List.map_nil, strip]) | ((first | refine wIs fun K hK => ?_ | refine wOs fun K hK => ?_ | refine wQs fun K hK => ?_ | refine CallK_plain ?_ | refine CallQ_plain ?_ | refine CallR_plain ?_ | refine wCond ?_); simp [lv, ouN, kpI, kpR, pos, ren, ren0, renB, renC, renCs]) | (refine wIn ?_; refine And.intro (by kernel_rfl) ?_; try simp only [thenA_n]) | (first | refine wBlock ?_ | refine wScope ?_) | ((first | refine wRet ?_ | refine wExit ?_ | refine wSkip ?_); try simp) | ((first | refine wLabel ?_ | refine wOn ?_ | refine wQn ?_); try simp only [thenA_n])
  all_goals first | apply hn | apply hr
  all_goals refine ⟨[], by simp, by simp, ?_⟩
  all_goals simp [Try.f52, outR, outB, renB, gaN, lv, ouN, kpI, kpR, pos, ren, ren0, renC, renCs]
set_option maxHeartbeats 2000000 in
theorem wMb (b : List UInt8) (cs : List PV) (hk : fMb.ok cs) (h : (b ++ fMb.en cs).length ≤ 30000000) : WCon 87 [vOf cs] b (b ++ fMb.en cs) := by
  obtain ⟨x0, x1, x2, x3, rfl, k0, k1, k2, k3⟩ := fMb_sh hk
  have hres : b ++ fMb.en [I x0, I x1, I x2, I x3] = b ++ catI [x0, x1, x2, x3] := by rw [fMb_en]; simp only [catI2, catI3, catI4, List.append_assoc]
  rw [hres] at h ⊢
  clear hres
  have c0 := wnumsF b [x0, x1, x2, x3] (by intro n hn; simp at hn; rcases hn with rfl | rfl | rfl | rfl <;> simp only [← foI_ok] <;> assumption) (by simp) h
  generalize b ++ catI [x0, x1, x2, x3] = y1 at *
  simp only [vOf2, ints, List.map_cons, List.map_nil] at *
  refine wBodyG Try.tab Try.mixed Try.func87 rfl rfl Try.ntmps87 (by simp) (by simp) fun Q hr hn hp => ?_
  repeat' first | (refine CallK_gen [1024, 1025] c0 (by decide) (by decide) (by simp [blksOf, inN, pos, renB, ren0, ouN, lv, kpI, kpR]) (by simp [argsG, argG, ren0, inN, pos, renCs, renC]) ⟨[], by simp, by simp, ?_⟩; simp [lv, ouN, kpI, kpR, pos, ren, ren0, renB, renC, renCs]; clear c0) | (refine hK _ ?_; clear hK) | (refine hK _ _ ?_; clear hK) | (clear hK; refine hK _ ?_; clear hK) | (clear hK; clear hK; refine hK _ ?_; clear hK) | (clear hK; clear hK; clear hK; refine hK _ ?_; clear hK) | (clear hK; clear hK; clear hK; clear hK; refine hK _ ?_; clear hK) | (refine wSeq fun K hK => ?_) | ((first | refine wReg ?_ | refine wDrwQ rfl (by kernel_rfl) ?_ | refine wDrwI ?_ | refine wDrw (by kernel_rfl) ?_); simp only [List.map_cons, List.map_nil, strip]) | ((first | refine wIs fun K hK => ?_ | refine wOs fun K hK => ?_ | refine wQs fun K hK => ?_ | refine CallK_plain ?_ | refine CallQ_plain ?_ | refine CallR_plain ?_ | refine wCond ?_); simp [lv, ouN, kpI, kpR, pos, ren, ren0, renB, renC, renCs]) | (refine wIn ?_; refine And.intro (by kernel_rfl) ?_; try simp only [thenA_n]) | (first | refine wBlock ?_ | refine wScope ?_) | ((first | refine wRet ?_ | refine wExit ?_ | refine wSkip ?_); try simp) | ((first | refine wLabel ?_ | refine wOn ?_ | refine wQn ?_); try simp only [thenA_n])
  all_goals first | apply hn | apply hr
  all_goals refine ⟨[], by simp, by simp, ?_⟩
  all_goals simp [Try.f87, outR, outB, renB, gaN, lv, ouN, kpI, kpR, pos, ren, ren0, renC, renCs]
set_option maxHeartbeats 2000000 in
theorem wlI (b : List UInt8) (rows : List (List PV)) (hk : (fl 1 foI).ok [.sl 1 rows]) (h : (b ++ (fl 1 foI).en [.sl 1 rows]).length ≤ 30000000) : WCon 84 [.p (.sl 1 rows), .p (.v (.func (.func 85) #[] #[]))] b (b ++ (fl 1 foI).en [.sl 1 rows]) := by
  obtain ⟨hl, ho⟩ := fl_ok hk
  rw [fl_en, ← List.append_assoc] at h ⊢
  have hL : okI (rows.length : Int) := ⟨by omega, by omega⟩
  have c0 := wnumF b rows.length (foI_ok.2 hL) (by rw [foI_en]; simp only [List.length_append] at h ⊢; omega)
  rw [foI_en] at c0
  generalize b ++ enc (zz (rows.length : Int)) = b2 at *
  refine wBodyG Try.tab Try.mixed Try.func84 rfl rfl Try.ntmps84 (by simp) (by simp) fun Q hr hn hp => ?_
  repeat' first | (refine CallK_gen [1024, 1025] c0 (by decide) (by decide) (by simp [blksOf, inN, pos, renB, ren0, ouN, lv, kpI, kpR]) (by simp [argsG, argG, ren0, inN, pos, renCs, renC]) ⟨[], by simp, by simp, ?_⟩; simp [lv, ouN, kpI, kpR, pos, ren, ren0, renB, renC, renCs]; clear c0) | (refine hK _ ?_; clear hK) | (refine hK _ _ ?_; clear hK) | (clear hK; refine hK _ ?_; clear hK) | (clear hK; clear hK; refine hK _ ?_; clear hK) | (clear hK; clear hK; clear hK; refine hK _ ?_; clear hK) | (clear hK; clear hK; clear hK; clear hK; refine hK _ ?_; clear hK) | (refine wSeq fun K hK => ?_) | ((first | refine wReg ?_ | refine wDrwQ rfl (by kernel_rfl) ?_ | refine wDrwI ?_ | refine wDrw (by kernel_rfl) ?_); simp only [List.map_cons, List.map_nil, strip]) | ((first | refine wIs fun K hK => ?_ | refine wOs fun K hK => ?_ | refine wQs fun K hK => ?_ | refine CallK_plain ?_ | refine CallQ_plain ?_ | refine CallR_plain ?_ | refine wCond ?_); simp [lv, ouN, kpI, kpR, pos, ren, ren0, renB, renC, renCs]) | (refine wIn ?_; refine And.intro (by kernel_rfl) ?_; try simp only [thenA_n]) | (first | refine wBlock ?_ | refine wScope ?_) | ((first | refine wRet ?_ | refine wExit ?_ | refine wSkip ?_); try simp) | ((first | refine wLabel ?_ | refine wOn ?_ | refine wQn ?_); try simp only [thenA_n])
  refine wLoop (fun N st => ∃ k p, k + N = rows.length ∧ p = b2 ++ (rows.take k).flatMap foI.en ∧ st.s 0 = .ptr 1024 0 ∧ st.s 2 = .p (.v (.func (.func 85) #[] #[])) ∧ st.s 12 = .p (.sl 1 rows) ∧ st.s 13 = .p (I rows.length) ∧ st.s 14 = .p (I k) ∧ st.b 1024 = some (.box 136 [.row 1025]) ∧ st.b 1025 = some (.row 5 1 (by8 p))) rows.length ⟨0, b2, by simp [lv, ouN, kpI, kpR, pos, ren, ren0, renB, renC, renCs]⟩ fun K N st hL ⟨k, p, hk, hp, g0, g2, g12, g13, g14, b0, b1⟩ => ?_
  by_cases hlt : k < rows.length
  · have hlt' : (k : Int) < rows.length := by omega
    have hw := wrapS k _ hlt (by omega)
    have hok := ho rows[k] (List.getElem_mem hlt)
    have hpp : p ++ foI.en rows[k] = b2 ++ (rows.take (k + 1)).flatMap foI.en := by rw [flatMap_snoc hlt, hp, List.append_assoc]
    have hpl2 : (p ++ foI.en rows[k]).length ≤ 30000000 := by rw [hpp]; have := flatMap_take_le foI.en rows (k + 1); simp only [List.length_append] at h ⊢; omega
    have he : rows[k]? = some rows[k] := List.getElem?_eq_getElem hlt
    generalize hQ : rows[k] = r at *
    obtain ⟨x0, rfl⟩ := foI_sh hok
    have c := wnumF p x0 hok hpl2
    generalize p ++ foI.en [I x0] = p2 at c hpp hpl2
    try simp only [vOf1, vOf2] at c
    repeat' first | (refine CallK_gen [1024, 1025] c (by decide) (by decide) (by simp [blksOf, inN, pos, renB, ren0, ouN, lv, kpI, kpR, b0, b1]) (by simp [argsG, argG, ren0, inN, pos, renCs, renC]) ⟨[], by simp, by simp, ?_⟩; simp [lv, ouN, kpI, kpR, pos, ren, ren0, renB, renC, renCs, b0, b1]) | (refine hK _ ?_; clear hK) | (refine hK _ _ ?_; clear hK) | (clear hK; refine hK _ ?_; clear hK) | (clear hK; clear hK; refine hK _ ?_; clear hK) | (clear hK; clear hK; clear hK; refine hK _ ?_; clear hK) | (clear hK; clear hK; clear hK; clear hK; refine hK _ ?_; clear hK) | (refine wSeq fun K hK => ?_) | ((first | refine wReg ?_ | refine wDrwQ rfl (by kernel_rfl) ?_ | refine wDrwI ?_ | refine wDrw (by kernel_rfl) ?_); simp only [List.map_cons, List.map_nil, strip]) | ((first | refine wIs fun K hK => ?_ | refine wOs fun K hK => ?_ | refine wQs fun K hK => ?_ | refine CallK_plain ?_ | refine CallQ_plain ?_ | refine CallR_plain ?_ | refine wCond ?_); simp [g0, g2, g12, g13, g14, b0, b1, hlt, hlt', hw, he, hQ]) | (refine wIn ?_; refine And.intro (by kernel_rfl) ?_; try simp only [thenA_n]) | (first | refine wBlock ?_ | refine wScope ?_) | ((first | refine wRet ?_ | refine wExit ?_ | refine wSkip ?_); try simp) | ((first | refine wLabel ?_ | refine wOn ?_ | refine wQn ?_); try simp only [thenA_n])
    refine hL _ (N - 1) (by omega) ⟨k + 1, p2, by omega, hpp, ?_⟩
    simp [g0, g2, g12, g13, g14, b0, b1, hw, lv, ouN, kpI, kpR, pos, ren, ren0, renB, renC, renCs]
  · have hlt' : ¬ (k : Int) < rows.length := by omega
    rw [List.take_of_length_le (by omega)] at hp
    subst hp
    repeat' first | (refine hK _ ?_; clear hK) | (refine hK _ _ ?_; clear hK) | (clear hK; refine hK _ ?_; clear hK) | (clear hK; clear hK; refine hK _ ?_; clear hK) | (clear hK; clear hK; clear hK; refine hK _ ?_; clear hK) | (clear hK; clear hK; clear hK; clear hK; refine hK _ ?_; clear hK) | (refine wSeq fun K hK => ?_) | ((first | refine wReg ?_ | refine wDrwQ rfl (by kernel_rfl) ?_ | refine wDrwI ?_ | refine wDrw (by kernel_rfl) ?_); simp only [List.map_cons, List.map_nil, strip]) | ((first | refine wIs fun K hK => ?_ | refine wOs fun K hK => ?_ | refine wQs fun K hK => ?_ | refine CallK_plain ?_ | refine CallQ_plain ?_ | refine CallR_plain ?_ | refine wCond ?_); simp [g0, g2, g12, g13, g14, b0, b1, hlt, hlt']) | (refine wIn ?_; refine And.intro (by kernel_rfl) ?_; try simp only [thenA_n]) | (first | refine wBlock ?_ | refine wScope ?_) | ((first | refine wRet ?_ | refine wExit ?_ | refine wSkip ?_); try simp) | ((first | refine wLabel ?_ | refine wOn ?_ | refine wQn ?_); try simp only [thenA_n])
    all_goals first | apply hn | apply hr
    all_goals refine ⟨[], by simp, by simp, ?_⟩
    all_goals simp [Try.f84, outR, outB, renB, gaN, b0, b1]
/- Records laid: configs, nodes, ops, votes. -/
set_option maxHeartbeats 2000000 in
theorem wlMb (b : List UInt8) (rows : List (List PV)) (hk : (fl 4 fMb).ok [.sl 4 rows]) (h : (b ++ (fl 4 fMb).en [.sl 4 rows]).length ≤ 30000000) : WCon 86 [.p (.sl 4 rows), .p (.v (.func (.func 87) #[] #[]))] b (b ++ (fl 4 fMb).en [.sl 4 rows]) := by
  obtain ⟨hl, ho⟩ := fl_ok hk
  rw [fl_en, ← List.append_assoc] at h ⊢
  have hL : okI (rows.length : Int) := ⟨by omega, by omega⟩
  have c0 := wnumF b rows.length (foI_ok.2 hL) (by rw [foI_en]; simp only [List.length_append] at h ⊢; omega)
  rw [foI_en] at c0
  generalize b ++ enc (zz (rows.length : Int)) = b2 at *
  refine wBodyG Try.tab Try.mixed Try.func86 rfl rfl Try.ntmps86 (by simp) (by simp) fun Q hr hn hp => ?_
  repeat' first | (refine CallK_gen [1024, 1025] c0 (by decide) (by decide) (by simp [blksOf, inN, pos, renB, ren0, ouN, lv, kpI, kpR]) (by simp [argsG, argG, ren0, inN, pos, renCs, renC]) ⟨[], by simp, by simp, ?_⟩; simp [lv, ouN, kpI, kpR, pos, ren, ren0, renB, renC, renCs]; clear c0) | (refine hK _ ?_; clear hK) | (refine hK _ _ ?_; clear hK) | (clear hK; refine hK _ ?_; clear hK) | (clear hK; clear hK; refine hK _ ?_; clear hK) | (clear hK; clear hK; clear hK; refine hK _ ?_; clear hK) | (clear hK; clear hK; clear hK; clear hK; refine hK _ ?_; clear hK) | (refine wSeq fun K hK => ?_) | ((first | refine wReg ?_ | refine wDrwQ rfl (by kernel_rfl) ?_ | refine wDrwI ?_ | refine wDrw (by kernel_rfl) ?_); simp only [List.map_cons, List.map_nil, strip]) | ((first | refine wIs fun K hK => ?_ | refine wOs fun K hK => ?_ | refine wQs fun K hK => ?_ | refine CallK_plain ?_ | refine CallQ_plain ?_ | refine CallR_plain ?_ | refine wCond ?_); simp [lv, ouN, kpI, kpR, pos, ren, ren0, renB, renC, renCs]) | (refine wIn ?_; refine And.intro (by kernel_rfl) ?_; try simp only [thenA_n]) | (first | refine wBlock ?_ | refine wScope ?_) | ((first | refine wRet ?_ | refine wExit ?_ | refine wSkip ?_); try simp) | ((first | refine wLabel ?_ | refine wOn ?_ | refine wQn ?_); try simp only [thenA_n])
  refine wLoop (fun N st => ∃ k p, k + N = rows.length ∧ p = b2 ++ (rows.take k).flatMap fMb.en ∧ st.s 0 = .ptr 1024 0 ∧ st.s 2 = .p (.v (.func (.func 87) #[] #[])) ∧ st.s 12 = .p (.sl 4 rows) ∧ st.s 13 = .p (I rows.length) ∧ st.s 14 = .p (I k) ∧ st.b 1024 = some (.box 136 [.row 1025]) ∧ st.b 1025 = some (.row 5 1 (by8 p))) rows.length ⟨0, b2, by simp [lv, ouN, kpI, kpR, pos, ren, ren0, renB, renC, renCs]⟩ fun K N st hL ⟨k, p, hk, hp, g0, g2, g12, g13, g14, b0, b1⟩ => ?_
  by_cases hlt : k < rows.length
  · have hlt' : (k : Int) < rows.length := by omega
    have hw := wrapS k _ hlt (by omega)
    have hok := ho rows[k] (List.getElem_mem hlt)
    have hpp : p ++ fMb.en rows[k] = b2 ++ (rows.take (k + 1)).flatMap fMb.en := by rw [flatMap_snoc hlt, hp, List.append_assoc]
    have hpl2 : (p ++ fMb.en rows[k]).length ≤ 30000000 := by rw [hpp]; have := flatMap_take_le fMb.en rows (k + 1); simp only [List.length_append] at h ⊢; omega
    have he : rows[k]? = some rows[k] := List.getElem?_eq_getElem hlt
    generalize hQ : rows[k] = r at *
    obtain ⟨x0, x1, x2, x3, rfl, -⟩ := fMb_sh hok
    have c := wMb p _ hok hpl2
    generalize p ++ fMb.en [I x0, I x1, I x2, I x3] = p2 at c hpp hpl2
    try simp only [vOf1, vOf2] at c
    repeat' first | (refine CallK_gen [1024, 1025] c (by decide) (by decide) (by simp [blksOf, inN, pos, renB, ren0, ouN, lv, kpI, kpR, b0, b1]) (by simp [argsG, argG, ren0, inN, pos, renCs, renC]) ⟨[], by simp, by simp, ?_⟩; simp [lv, ouN, kpI, kpR, pos, ren, ren0, renB, renC, renCs, b0, b1]) | (refine hK _ ?_; clear hK) | (refine hK _ _ ?_; clear hK) | (clear hK; refine hK _ ?_; clear hK) | (clear hK; clear hK; refine hK _ ?_; clear hK) | (clear hK; clear hK; clear hK; refine hK _ ?_; clear hK) | (clear hK; clear hK; clear hK; clear hK; refine hK _ ?_; clear hK) | (refine wSeq fun K hK => ?_) | ((first | refine wReg ?_ | refine wDrwQ rfl (by kernel_rfl) ?_ | refine wDrwI ?_ | refine wDrw (by kernel_rfl) ?_); simp only [List.map_cons, List.map_nil, strip]) | ((first | refine wIs fun K hK => ?_ | refine wOs fun K hK => ?_ | refine wQs fun K hK => ?_ | refine CallK_plain ?_ | refine CallQ_plain ?_ | refine CallR_plain ?_ | refine wCond ?_); simp [g0, g2, g12, g13, g14, b0, b1, hlt, hlt', hw, he, hQ]) | (refine wIn ?_; refine And.intro (by kernel_rfl) ?_; try simp only [thenA_n]) | (first | refine wBlock ?_ | refine wScope ?_) | ((first | refine wRet ?_ | refine wExit ?_ | refine wSkip ?_); try simp) | ((first | refine wLabel ?_ | refine wOn ?_ | refine wQn ?_); try simp only [thenA_n])
    refine hL _ (N - 1) (by omega) ⟨k + 1, p2, by omega, hpp, ?_⟩
    simp [g0, g2, g12, g13, g14, b0, b1, hw, lv, ouN, kpI, kpR, pos, ren, ren0, renB, renC, renCs]
  · have hlt' : ¬ (k : Int) < rows.length := by omega
    rw [List.take_of_length_le (by omega)] at hp
    subst hp
    repeat' first | (refine hK _ ?_; clear hK) | (refine hK _ _ ?_; clear hK) | (clear hK; refine hK _ ?_; clear hK) | (clear hK; clear hK; refine hK _ ?_; clear hK) | (clear hK; clear hK; clear hK; refine hK _ ?_; clear hK) | (clear hK; clear hK; clear hK; clear hK; refine hK _ ?_; clear hK) | (refine wSeq fun K hK => ?_) | ((first | refine wReg ?_ | refine wDrwQ rfl (by kernel_rfl) ?_ | refine wDrwI ?_ | refine wDrw (by kernel_rfl) ?_); simp only [List.map_cons, List.map_nil, strip]) | ((first | refine wIs fun K hK => ?_ | refine wOs fun K hK => ?_ | refine wQs fun K hK => ?_ | refine CallK_plain ?_ | refine CallQ_plain ?_ | refine CallR_plain ?_ | refine wCond ?_); simp [g0, g2, g12, g13, g14, b0, b1, hlt, hlt']) | (refine wIn ?_; refine And.intro (by kernel_rfl) ?_; try simp only [thenA_n]) | (first | refine wBlock ?_ | refine wScope ?_) | ((first | refine wRet ?_ | refine wExit ?_ | refine wSkip ?_); try simp) | ((first | refine wLabel ?_ | refine wOn ?_ | refine wQn ?_); try simp only [thenA_n])
    all_goals first | apply hn | apply hr
    all_goals refine ⟨[], by simp, by simp, ?_⟩
    all_goals simp [Try.f86, outR, outB, renB, gaN, b0, b1]
set_option maxHeartbeats 2000000 in
theorem wCf (b : List UInt8) (cs : List PV) (hk : fCf.ok cs) (h : (b ++ fCf.en cs).length ≤ 30000000) : WCon 49 [vOf cs] b (b ++ fCf.en cs) := by
  obtain ⟨x0, x1, x2, x3, rfl, k0, k1, k2⟩ := fCf_sh hk
  have hres : b ++ fCf.en [I x0, I x1, I x2, .sl 4 x3] = b ++ fZx.en [I x0, I x1] ++ foI.en [I x2] ++ (fl 4 fMb).en [.sl 4 x3] := by rw [fCf_en]; simp only [catI2, catI3, catI4, List.append_assoc]
  rw [hres] at h ⊢
  clear hres
  have c0 := wZx b _ k0 (by simp only [List.length_append] at h ⊢; omega)
  have c1 := wnumF (b ++ fZx.en [I x0, I x1]) x2 k1 (by simp only [List.length_append] at h ⊢; omega)
  have c2 := wlMb (b ++ fZx.en [I x0, I x1] ++ foI.en [I x2]) x3 k2 h
  generalize b ++ fZx.en [I x0, I x1] ++ foI.en [I x2] ++ (fl 4 fMb).en [.sl 4 x3] = y3 at *
  generalize b ++ fZx.en [I x0, I x1] ++ foI.en [I x2] = y2 at *
  generalize b ++ fZx.en [I x0, I x1] = y1 at *
  simp only [vOf2, ints, List.map_cons, List.map_nil] at *
  refine wBodyG Try.tab Try.mixed Try.func49 rfl rfl Try.ntmps49 (by simp) (by simp) fun Q hr hn hp => ?_
  repeat' first | (refine CallK_gen [1024, 1025] c0 (by decide) (by decide) (by simp [blksOf, inN, pos, renB, ren0, ouN, lv, kpI, kpR]) (by simp [argsG, argG, ren0, inN, pos, renCs, renC]) ⟨[], by simp, by simp, ?_⟩; simp [lv, ouN, kpI, kpR, pos, ren, ren0, renB, renC, renCs]; clear c0) | (refine CallK_gen [1024, 1025] c1 (by decide) (by decide) (by simp [blksOf, inN, pos, renB, ren0, ouN, lv, kpI, kpR]) (by simp [argsG, argG, ren0, inN, pos, renCs, renC]) ⟨[], by simp, by simp, ?_⟩; simp [lv, ouN, kpI, kpR, pos, ren, ren0, renB, renC, renCs]; clear c1) | (refine CallK_gen [1024, 1025] c2 (by decide) (by decide) (by simp [blksOf, inN, pos, renB, ren0, ouN, lv, kpI, kpR]) (by simp [argsG, argG, ren0, inN, pos, renCs, renC]) ⟨[], by simp, by simp, ?_⟩; simp [lv, ouN, kpI, kpR, pos, ren, ren0, renB, renC, renCs]; clear c2) | (refine hK _ ?_; clear hK) | (refine hK _ _ ?_; clear hK) | (clear hK; refine hK _ ?_; clear hK) | (clear hK; clear hK; refine hK _ ?_; clear hK) | (clear hK; clear hK; clear hK; refine hK _ ?_; clear hK) | (clear hK; clear hK; clear hK; clear hK; refine hK _ ?_; clear hK) | (refine wSeq fun K hK => ?_) | ((first | refine wReg ?_ | refine wDrwQ rfl (by kernel_rfl) ?_ | refine wDrwI ?_ | refine wDrw (by kernel_rfl) ?_); simp only [List.map_cons, List.map_nil, strip]) | ((first | refine wIs fun K hK => ?_ | refine wOs fun K hK => ?_ | refine wQs fun K hK => ?_ | refine CallK_plain ?_ | refine CallQ_plain ?_ | refine CallR_plain ?_ | refine wCond ?_); simp [lv, ouN, kpI, kpR, pos, ren, ren0, renB, renC, renCs]) | (refine wIn ?_; refine And.intro (by kernel_rfl) ?_; try simp only [thenA_n]) | (first | refine wBlock ?_ | refine wScope ?_) | ((first | refine wRet ?_ | refine wExit ?_ | refine wSkip ?_); try simp) | ((first | refine wLabel ?_ | refine wOn ?_ | refine wQn ?_); try simp only [thenA_n])
  all_goals first | apply hn | apply hr
  all_goals refine ⟨[], by simp, by simp, ?_⟩
  all_goals simp [Try.f49, outR, outB, renB, gaN, lv, ouN, kpI, kpR, pos, ren, ren0, renC, renCs]
set_option maxHeartbeats 2000000 in
theorem wNd (b : List UInt8) (cs : List PV) (hk : fNd.ok cs) (h : (b ++ fNd.en cs).length ≤ 30000000) : WCon 83 [vOf cs] b (b ++ fNd.en cs) := by
  obtain ⟨x0, x1, x2, x3, x4, rfl, k0, k1, k2, k3, k4⟩ := fNd_sh hk
  have hres : b ++ fNd.en [SB x0, SB x1, I x2, I x3, I x4] = b ++ foS.en [SB x0] ++ foS.en [SB x1] ++ catI [x2, x3, x4] := by rw [fNd_en]; simp only [catI2, catI3, catI4, List.append_assoc]
  rw [hres] at h ⊢
  clear hres
  have c0 := wtextF b x0 k0 (by simp only [List.length_append] at h ⊢; omega)
  have c1 := wtextF (b ++ foS.en [SB x0]) x1 k1 (by simp only [List.length_append] at h ⊢; omega)
  have c2 := wnumsF (b ++ foS.en [SB x0] ++ foS.en [SB x1]) [x2, x3, x4] (by intro n hn; simp at hn; rcases hn with rfl | rfl | rfl <;> simp only [← foI_ok] <;> assumption) (by simp) h
  generalize b ++ foS.en [SB x0] ++ foS.en [SB x1] ++ catI [x2, x3, x4] = y3 at *
  generalize b ++ foS.en [SB x0] ++ foS.en [SB x1] = y2 at *
  generalize b ++ foS.en [SB x0] = y1 at *
  simp only [vOf2, ints, List.map_cons, List.map_nil] at *
  refine wBodyG Try.tab Try.mixed Try.func83 rfl rfl Try.ntmps83 (by simp) (by simp) fun Q hr hn hp => ?_
  repeat' first | (refine CallK_gen [1024, 1025] c0 (by decide) (by decide) (by simp [blksOf, inN, pos, renB, ren0, ouN, lv, kpI, kpR]) (by simp [argsG, argG, ren0, inN, pos, renCs, renC]) ⟨[], by simp, by simp, ?_⟩; simp [lv, ouN, kpI, kpR, pos, ren, ren0, renB, renC, renCs]; clear c0) | (refine CallK_gen [1024, 1025] c1 (by decide) (by decide) (by simp [blksOf, inN, pos, renB, ren0, ouN, lv, kpI, kpR]) (by simp [argsG, argG, ren0, inN, pos, renCs, renC]) ⟨[], by simp, by simp, ?_⟩; simp [lv, ouN, kpI, kpR, pos, ren, ren0, renB, renC, renCs]; clear c1) | (refine CallK_gen [1024, 1025] c2 (by decide) (by decide) (by simp [blksOf, inN, pos, renB, ren0, ouN, lv, kpI, kpR]) (by simp [argsG, argG, ren0, inN, pos, renCs, renC]) ⟨[], by simp, by simp, ?_⟩; simp [lv, ouN, kpI, kpR, pos, ren, ren0, renB, renC, renCs]; clear c2) | (refine hK _ ?_; clear hK) | (refine hK _ _ ?_; clear hK) | (clear hK; refine hK _ ?_; clear hK) | (clear hK; clear hK; refine hK _ ?_; clear hK) | (clear hK; clear hK; clear hK; refine hK _ ?_; clear hK) | (clear hK; clear hK; clear hK; clear hK; refine hK _ ?_; clear hK) | (refine wSeq fun K hK => ?_) | ((first | refine wReg ?_ | refine wDrwQ rfl (by kernel_rfl) ?_ | refine wDrwI ?_ | refine wDrw (by kernel_rfl) ?_); simp only [List.map_cons, List.map_nil, strip]) | ((first | refine wIs fun K hK => ?_ | refine wOs fun K hK => ?_ | refine wQs fun K hK => ?_ | refine CallK_plain ?_ | refine CallQ_plain ?_ | refine CallR_plain ?_ | refine wCond ?_); simp [lv, ouN, kpI, kpR, pos, ren, ren0, renB, renC, renCs]) | (refine wIn ?_; refine And.intro (by kernel_rfl) ?_; try simp only [thenA_n]) | (first | refine wBlock ?_ | refine wScope ?_) | ((first | refine wRet ?_ | refine wExit ?_ | refine wSkip ?_); try simp) | ((first | refine wLabel ?_ | refine wOn ?_ | refine wQn ?_); try simp only [thenA_n])
  all_goals first | apply hn | apply hr
  all_goals refine ⟨[], by simp, by simp, ?_⟩
  all_goals simp [Try.f83, outR, outB, renB, gaN, lv, ouN, kpI, kpR, pos, ren, ren0, renC, renCs]
set_option maxHeartbeats 2000000 in
theorem wOp (b : List UInt8) (cs : List PV) (hk : fOp.ok cs) (h : (b ++ fOp.en cs).length ≤ 30000000) : WCon 92 [vOf cs] b (b ++ fOp.en cs) := by
  obtain ⟨x0, x1, x2, x3, x4, x5, rfl, k0, k1, k2, k3, k4, k5⟩ := fOp_sh hk
  have hres : b ++ fOp.en [I x0, SB x1, SB x2, I x3, B x4, B x5] = b ++ foI.en [I x0] ++ foS.en [SB x1] ++ foS.en [SB x2] ++ foI.en [I x3] ++ foB.en [B x4] ++ foB.en [B x5] := by rw [fOp_en]; simp only [catI2, catI3, catI4, List.append_assoc]
  rw [hres] at h ⊢
  clear hres
  have c0 := wnumF b x0 k0 (by simp only [List.length_append] at h ⊢; omega)
  have c1 := wtextF (b ++ foI.en [I x0]) x1 k1 (by simp only [List.length_append] at h ⊢; omega)
  have c2 := wtextF (b ++ foI.en [I x0] ++ foS.en [SB x1]) x2 k2 (by simp only [List.length_append] at h ⊢; omega)
  have c3 := wnumF (b ++ foI.en [I x0] ++ foS.en [SB x1] ++ foS.en [SB x2]) x3 k3 (by simp only [List.length_append] at h ⊢; omega)
  have c4 := wflagF (b ++ foI.en [I x0] ++ foS.en [SB x1] ++ foS.en [SB x2] ++ foI.en [I x3]) x4 k4 (by simp only [List.length_append] at h ⊢; omega)
  have c5 := wflagF (b ++ foI.en [I x0] ++ foS.en [SB x1] ++ foS.en [SB x2] ++ foI.en [I x3] ++ foB.en [B x4]) x5 k5 h
  generalize b ++ foI.en [I x0] ++ foS.en [SB x1] ++ foS.en [SB x2] ++ foI.en [I x3] ++ foB.en [B x4] ++ foB.en [B x5] = y6 at *
  generalize b ++ foI.en [I x0] ++ foS.en [SB x1] ++ foS.en [SB x2] ++ foI.en [I x3] ++ foB.en [B x4] = y5 at *
  generalize b ++ foI.en [I x0] ++ foS.en [SB x1] ++ foS.en [SB x2] ++ foI.en [I x3] = y4 at *
  generalize b ++ foI.en [I x0] ++ foS.en [SB x1] ++ foS.en [SB x2] = y3 at *
  generalize b ++ foI.en [I x0] ++ foS.en [SB x1] = y2 at *
  generalize b ++ foI.en [I x0] = y1 at *
  simp only [vOf2, ints, List.map_cons, List.map_nil] at *
  refine wBodyG Try.tab Try.mixed Try.func92 rfl rfl Try.ntmps92 (by simp) (by simp) fun Q hr hn hp => ?_
  repeat' first | (refine CallK_gen [1024, 1025] c0 (by decide) (by decide) (by simp [blksOf, inN, pos, renB, ren0, ouN, lv, kpI, kpR]) (by simp [argsG, argG, ren0, inN, pos, renCs, renC]) ⟨[], by simp, by simp, ?_⟩; simp [lv, ouN, kpI, kpR, pos, ren, ren0, renB, renC, renCs]; clear c0) | (refine CallK_gen [1024, 1025] c1 (by decide) (by decide) (by simp [blksOf, inN, pos, renB, ren0, ouN, lv, kpI, kpR]) (by simp [argsG, argG, ren0, inN, pos, renCs, renC]) ⟨[], by simp, by simp, ?_⟩; simp [lv, ouN, kpI, kpR, pos, ren, ren0, renB, renC, renCs]; clear c1) | (refine CallK_gen [1024, 1025] c2 (by decide) (by decide) (by simp [blksOf, inN, pos, renB, ren0, ouN, lv, kpI, kpR]) (by simp [argsG, argG, ren0, inN, pos, renCs, renC]) ⟨[], by simp, by simp, ?_⟩; simp [lv, ouN, kpI, kpR, pos, ren, ren0, renB, renC, renCs]; clear c2) | (refine CallK_gen [1024, 1025] c3 (by decide) (by decide) (by simp [blksOf, inN, pos, renB, ren0, ouN, lv, kpI, kpR]) (by simp [argsG, argG, ren0, inN, pos, renCs, renC]) ⟨[], by simp, by simp, ?_⟩; simp [lv, ouN, kpI, kpR, pos, ren, ren0, renB, renC, renCs]; clear c3) | (refine CallK_gen [1024, 1025] c4 (by decide) (by decide) (by simp [blksOf, inN, pos, renB, ren0, ouN, lv, kpI, kpR]) (by simp [argsG, argG, ren0, inN, pos, renCs, renC]) ⟨[], by simp, by simp, ?_⟩; simp [lv, ouN, kpI, kpR, pos, ren, ren0, renB, renC, renCs]; clear c4) | (refine CallK_gen [1024, 1025] c5 (by decide) (by decide) (by simp [blksOf, inN, pos, renB, ren0, ouN, lv, kpI, kpR]) (by simp [argsG, argG, ren0, inN, pos, renCs, renC]) ⟨[], by simp, by simp, ?_⟩; simp [lv, ouN, kpI, kpR, pos, ren, ren0, renB, renC, renCs]; clear c5) | (refine hK _ ?_; clear hK) | (refine hK _ _ ?_; clear hK) | (clear hK; refine hK _ ?_; clear hK) | (clear hK; clear hK; refine hK _ ?_; clear hK) | (clear hK; clear hK; clear hK; refine hK _ ?_; clear hK) | (clear hK; clear hK; clear hK; clear hK; refine hK _ ?_; clear hK) | (refine wSeq fun K hK => ?_) | ((first | refine wReg ?_ | refine wDrwQ rfl (by kernel_rfl) ?_ | refine wDrwI ?_ | refine wDrw (by kernel_rfl) ?_); simp only [List.map_cons, List.map_nil, strip]) | ((first | refine wIs fun K hK => ?_ | refine wOs fun K hK => ?_ | refine wQs fun K hK => ?_ | refine CallK_plain ?_ | refine CallQ_plain ?_ | refine CallR_plain ?_ | refine wCond ?_); simp [lv, ouN, kpI, kpR, pos, ren, ren0, renB, renC, renCs]) | (refine wIn ?_; refine And.intro (by kernel_rfl) ?_; try simp only [thenA_n]) | (first | refine wBlock ?_ | refine wScope ?_) | ((first | refine wRet ?_ | refine wExit ?_ | refine wSkip ?_); try simp) | ((first | refine wLabel ?_ | refine wOn ?_ | refine wQn ?_); try simp only [thenA_n])
  all_goals first | apply hn | apply hr
  all_goals refine ⟨[], by simp, by simp, ?_⟩
  all_goals simp [Try.f92, outR, outB, renB, gaN, lv, ouN, kpI, kpR, pos, ren, ren0, renC, renCs]
set_option maxHeartbeats 2000000 in
theorem wVt (b : List UInt8) (cs : List PV) (hk : fVt.ok cs) (h : (b ++ fVt.en cs).length ≤ 30000000) : WCon 88 [vOf cs] b (b ++ fVt.en cs) := by
  obtain ⟨x0, x1, x2, x3, x4, x5, x6, rfl, k0, k1, k2, k3, k4, k5⟩ := fVt_sh hk
  have hres : b ++ fVt.en [I x0, I x1, I x2, I x3, I x4, I x5, I x6] = b ++ catI [x0, x1, x2] ++ fZx.en [I x3, I x4] ++ catI [x5, x6] := by rw [fVt_en]; simp only [catI2, catI3, catI4, List.append_assoc]
  rw [hres] at h ⊢
  clear hres
  have c0 := wnumsF b [x0, x1, x2] (by intro n hn; simp at hn; rcases hn with rfl | rfl | rfl <;> simp only [← foI_ok] <;> assumption) (by simp) (by simp only [List.length_append] at h ⊢; omega)
  have c1 := wZx (b ++ catI [x0, x1, x2]) _ k3 (by simp only [List.length_append] at h ⊢; omega)
  have c2 := wnumsF (b ++ catI [x0, x1, x2] ++ fZx.en [I x3, I x4]) [x5, x6] (by intro n hn; simp at hn; rcases hn with rfl | rfl <;> simp only [← foI_ok] <;> assumption) (by simp) h
  generalize b ++ catI [x0, x1, x2] ++ fZx.en [I x3, I x4] ++ catI [x5, x6] = y3 at *
  generalize b ++ catI [x0, x1, x2] ++ fZx.en [I x3, I x4] = y2 at *
  generalize b ++ catI [x0, x1, x2] = y1 at *
  simp only [vOf2, ints, List.map_cons, List.map_nil] at *
  refine wBodyG Try.tab Try.mixed Try.func88 rfl rfl Try.ntmps88 (by simp) (by simp) fun Q hr hn hp => ?_
  repeat' first | (refine CallK_gen [1024, 1025] c0 (by decide) (by decide) (by simp [blksOf, inN, pos, renB, ren0, ouN, lv, kpI, kpR]) (by simp [argsG, argG, ren0, inN, pos, renCs, renC]) ⟨[], by simp, by simp, ?_⟩; simp [lv, ouN, kpI, kpR, pos, ren, ren0, renB, renC, renCs]; clear c0) | (refine CallK_gen [1024, 1025] c1 (by decide) (by decide) (by simp [blksOf, inN, pos, renB, ren0, ouN, lv, kpI, kpR]) (by simp [argsG, argG, ren0, inN, pos, renCs, renC]) ⟨[], by simp, by simp, ?_⟩; simp [lv, ouN, kpI, kpR, pos, ren, ren0, renB, renC, renCs]; clear c1) | (refine CallK_gen [1024, 1025] c2 (by decide) (by decide) (by simp [blksOf, inN, pos, renB, ren0, ouN, lv, kpI, kpR]) (by simp [argsG, argG, ren0, inN, pos, renCs, renC]) ⟨[], by simp, by simp, ?_⟩; simp [lv, ouN, kpI, kpR, pos, ren, ren0, renB, renC, renCs]; clear c2) | (refine hK _ ?_; clear hK) | (refine hK _ _ ?_; clear hK) | (clear hK; refine hK _ ?_; clear hK) | (clear hK; clear hK; refine hK _ ?_; clear hK) | (clear hK; clear hK; clear hK; refine hK _ ?_; clear hK) | (clear hK; clear hK; clear hK; clear hK; refine hK _ ?_; clear hK) | (refine wSeq fun K hK => ?_) | ((first | refine wReg ?_ | refine wDrwQ rfl (by kernel_rfl) ?_ | refine wDrwI ?_ | refine wDrw (by kernel_rfl) ?_); simp only [List.map_cons, List.map_nil, strip]) | ((first | refine wIs fun K hK => ?_ | refine wOs fun K hK => ?_ | refine wQs fun K hK => ?_ | refine CallK_plain ?_ | refine CallQ_plain ?_ | refine CallR_plain ?_ | refine wCond ?_); simp [lv, ouN, kpI, kpR, pos, ren, ren0, renB, renC, renCs]) | (refine wIn ?_; refine And.intro (by kernel_rfl) ?_; try simp only [thenA_n]) | (first | refine wBlock ?_ | refine wScope ?_) | ((first | refine wRet ?_ | refine wExit ?_ | refine wSkip ?_); try simp) | ((first | refine wLabel ?_ | refine wOn ?_ | refine wQn ?_); try simp only [thenA_n])
  all_goals first | apply hn | apply hr
  all_goals refine ⟨[], by simp, by simp, ?_⟩
  all_goals simp [Try.f88, outR, outB, renB, gaN, lv, ouN, kpI, kpR, pos, ren, ren0, renC, renCs]
/- Records laid: transactions. -/
set_option maxHeartbeats 2000000 in
theorem wPt (b : List UInt8) (cs : List PV) (hk : fPt.ok cs) (h : (b ++ fPt.en cs).length ≤ 30000000) : WCon 81 [vOf cs] b (b ++ fPt.en cs) := by
  obtain ⟨x0, x1, x2, x3, x4, x5, x6, x7, x8, x9, x10, rfl, k0, k1, k2, k3⟩ := fPt_sh hk
  have hres : b ++ fPt.en [I x0, SB x1, SB x2, I x3, I x4, I x5, I x6, I x7, I x8, I x9, .sl 4 x10] = b ++ foI.en [I x0] ++ fNd.en [SB x1, SB x2, I x3, I x4, I x5] ++ foI.en [I x6] ++ fCf.en [I x7, I x8, I x9, .sl 4 x10] := by rw [fPt_en]; simp only [catI2, catI3, catI4, List.append_assoc]
  rw [hres] at h ⊢
  clear hres
  have c0 := wnumF b x0 k0 (by simp only [List.length_append] at h ⊢; omega)
  have c1 := wNd (b ++ foI.en [I x0]) _ k1 (by simp only [List.length_append] at h ⊢; omega)
  have c2 := wnumF (b ++ foI.en [I x0] ++ fNd.en [SB x1, SB x2, I x3, I x4, I x5]) x6 k2 (by simp only [List.length_append] at h ⊢; omega)
  have c3 := wCf (b ++ foI.en [I x0] ++ fNd.en [SB x1, SB x2, I x3, I x4, I x5] ++ foI.en [I x6]) _ k3 h
  generalize b ++ foI.en [I x0] ++ fNd.en [SB x1, SB x2, I x3, I x4, I x5] ++ foI.en [I x6] ++ fCf.en [I x7, I x8, I x9, .sl 4 x10] = y4 at *
  generalize b ++ foI.en [I x0] ++ fNd.en [SB x1, SB x2, I x3, I x4, I x5] ++ foI.en [I x6] = y3 at *
  generalize b ++ foI.en [I x0] ++ fNd.en [SB x1, SB x2, I x3, I x4, I x5] = y2 at *
  generalize b ++ foI.en [I x0] = y1 at *
  simp only [vOf2, ints, List.map_cons, List.map_nil] at *
  refine wBodyG Try.tab Try.mixed Try.func81 rfl rfl Try.ntmps81 (by simp) (by simp) fun Q hr hn hp => ?_
  repeat' first | (refine CallK_gen [1024, 1025] c0 (by decide) (by decide) (by simp [blksOf, inN, pos, renB, ren0, ouN, lv, kpI, kpR]) (by simp [argsG, argG, ren0, inN, pos, renCs, renC]) ⟨[], by simp, by simp, ?_⟩; simp [lv, ouN, kpI, kpR, pos, ren, ren0, renB, renC, renCs]; clear c0) | (refine CallK_gen [1024, 1025] c1 (by decide) (by decide) (by simp [blksOf, inN, pos, renB, ren0, ouN, lv, kpI, kpR]) (by simp [argsG, argG, ren0, inN, pos, renCs, renC]) ⟨[], by simp, by simp, ?_⟩; simp [lv, ouN, kpI, kpR, pos, ren, ren0, renB, renC, renCs]; clear c1) | (refine CallK_gen [1024, 1025] c2 (by decide) (by decide) (by simp [blksOf, inN, pos, renB, ren0, ouN, lv, kpI, kpR]) (by simp [argsG, argG, ren0, inN, pos, renCs, renC]) ⟨[], by simp, by simp, ?_⟩; simp [lv, ouN, kpI, kpR, pos, ren, ren0, renB, renC, renCs]; clear c2) | (refine CallK_gen [1024, 1025] c3 (by decide) (by decide) (by simp [blksOf, inN, pos, renB, ren0, ouN, lv, kpI, kpR]) (by simp [argsG, argG, ren0, inN, pos, renCs, renC]) ⟨[], by simp, by simp, ?_⟩; simp [lv, ouN, kpI, kpR, pos, ren, ren0, renB, renC, renCs]; clear c3) | (refine hK _ ?_; clear hK) | (refine hK _ _ ?_; clear hK) | (clear hK; refine hK _ ?_; clear hK) | (clear hK; clear hK; refine hK _ ?_; clear hK) | (clear hK; clear hK; clear hK; refine hK _ ?_; clear hK) | (clear hK; clear hK; clear hK; clear hK; refine hK _ ?_; clear hK) | (refine wSeq fun K hK => ?_) | ((first | refine wReg ?_ | refine wDrwQ rfl (by kernel_rfl) ?_ | refine wDrwI ?_ | refine wDrw (by kernel_rfl) ?_); simp only [List.map_cons, List.map_nil, strip]) | ((first | refine wIs fun K hK => ?_ | refine wOs fun K hK => ?_ | refine wQs fun K hK => ?_ | refine CallK_plain ?_ | refine CallQ_plain ?_ | refine CallR_plain ?_ | refine wCond ?_); simp [lv, ouN, kpI, kpR, pos, ren, ren0, renB, renC, renCs]) | (refine wIn ?_; refine And.intro (by kernel_rfl) ?_; try simp only [thenA_n]) | (first | refine wBlock ?_ | refine wScope ?_) | ((first | refine wRet ?_ | refine wExit ?_ | refine wSkip ?_); try simp) | ((first | refine wLabel ?_ | refine wOn ?_ | refine wQn ?_); try simp only [thenA_n])
  all_goals first | apply hn | apply hr
  all_goals refine ⟨[], by simp, by simp, ?_⟩
  all_goals simp [Try.f81, outR, outB, renB, gaN, lv, ouN, kpI, kpR, pos, ren, ren0, renC, renCs]
set_option maxHeartbeats 2000000 in
theorem wlPt (b : List UInt8) (rows : List (List PV)) (hk : (fl 11 fPt).ok [.sl 11 rows]) (h : (b ++ (fl 11 fPt).en [.sl 11 rows]).length ≤ 30000000) : WCon 80 [.p (.sl 11 rows), .p (.v (.func (.func 81) #[] #[]))] b (b ++ (fl 11 fPt).en [.sl 11 rows]) := by
  obtain ⟨hl, ho⟩ := fl_ok hk
  rw [fl_en, ← List.append_assoc] at h ⊢
  have hL : okI (rows.length : Int) := ⟨by omega, by omega⟩
  have c0 := wnumF b rows.length (foI_ok.2 hL) (by rw [foI_en]; simp only [List.length_append] at h ⊢; omega)
  rw [foI_en] at c0
  generalize b ++ enc (zz (rows.length : Int)) = b2 at *
  refine wBodyG Try.tab Try.mixed Try.func80 rfl rfl Try.ntmps80 (by simp) (by simp) fun Q hr hn hp => ?_
  repeat' first | (refine CallK_gen [1024, 1025] c0 (by decide) (by decide) (by simp [blksOf, inN, pos, renB, ren0, ouN, lv, kpI, kpR]) (by simp [argsG, argG, ren0, inN, pos, renCs, renC]) ⟨[], by simp, by simp, ?_⟩; simp [lv, ouN, kpI, kpR, pos, ren, ren0, renB, renC, renCs]; clear c0) | (refine hK _ ?_; clear hK) | (refine hK _ _ ?_; clear hK) | (clear hK; refine hK _ ?_; clear hK) | (clear hK; clear hK; refine hK _ ?_; clear hK) | (clear hK; clear hK; clear hK; refine hK _ ?_; clear hK) | (clear hK; clear hK; clear hK; clear hK; refine hK _ ?_; clear hK) | (refine wSeq fun K hK => ?_) | ((first | refine wReg ?_ | refine wDrwQ rfl (by kernel_rfl) ?_ | refine wDrwI ?_ | refine wDrw (by kernel_rfl) ?_); simp only [List.map_cons, List.map_nil, strip]) | ((first | refine wIs fun K hK => ?_ | refine wOs fun K hK => ?_ | refine wQs fun K hK => ?_ | refine CallK_plain ?_ | refine CallQ_plain ?_ | refine CallR_plain ?_ | refine wCond ?_); simp [lv, ouN, kpI, kpR, pos, ren, ren0, renB, renC, renCs]) | (refine wIn ?_; refine And.intro (by kernel_rfl) ?_; try simp only [thenA_n]) | (first | refine wBlock ?_ | refine wScope ?_) | ((first | refine wRet ?_ | refine wExit ?_ | refine wSkip ?_); try simp) | ((first | refine wLabel ?_ | refine wOn ?_ | refine wQn ?_); try simp only [thenA_n])
  refine wLoop (fun N st => ∃ k p, k + N = rows.length ∧ p = b2 ++ (rows.take k).flatMap fPt.en ∧ st.s 0 = .ptr 1024 0 ∧ st.s 2 = .p (.v (.func (.func 81) #[] #[])) ∧ st.s 12 = .p (.sl 11 rows) ∧ st.s 13 = .p (I rows.length) ∧ st.s 14 = .p (I k) ∧ st.b 1024 = some (.box 136 [.row 1025]) ∧ st.b 1025 = some (.row 5 1 (by8 p))) rows.length ⟨0, b2, by simp [lv, ouN, kpI, kpR, pos, ren, ren0, renB, renC, renCs]⟩ fun K N st hL ⟨k, p, hk, hp, g0, g2, g12, g13, g14, b0, b1⟩ => ?_
  by_cases hlt : k < rows.length
  · have hlt' : (k : Int) < rows.length := by omega
    have hw := wrapS k _ hlt (by omega)
    have hok := ho rows[k] (List.getElem_mem hlt)
    have hpp : p ++ fPt.en rows[k] = b2 ++ (rows.take (k + 1)).flatMap fPt.en := by rw [flatMap_snoc hlt, hp, List.append_assoc]
    have hpl2 : (p ++ fPt.en rows[k]).length ≤ 30000000 := by rw [hpp]; have := flatMap_take_le fPt.en rows (k + 1); simp only [List.length_append] at h ⊢; omega
    have he : rows[k]? = some rows[k] := List.getElem?_eq_getElem hlt
    generalize hQ : rows[k] = r at *
    obtain ⟨x0, x1, x2, x3, x4, x5, x6, x7, x8, x9, x10, rfl, -⟩ := fPt_sh hok
    have c := wPt p _ hok hpl2
    generalize p ++ fPt.en [I x0, SB x1, SB x2, I x3, I x4, I x5, I x6, I x7, I x8, I x9, .sl 4 x10] = p2 at c hpp hpl2
    try simp only [vOf1, vOf2] at c
    repeat' first | (refine CallK_gen [1024, 1025] c (by decide) (by decide) (by simp [blksOf, inN, pos, renB, ren0, ouN, lv, kpI, kpR, b0, b1]) (by simp [argsG, argG, ren0, inN, pos, renCs, renC]) ⟨[], by simp, by simp, ?_⟩; simp [lv, ouN, kpI, kpR, pos, ren, ren0, renB, renC, renCs, b0, b1]) | (refine hK _ ?_; clear hK) | (refine hK _ _ ?_; clear hK) | (clear hK; refine hK _ ?_; clear hK) | (clear hK; clear hK; refine hK _ ?_; clear hK) | (clear hK; clear hK; clear hK; refine hK _ ?_; clear hK) | (clear hK; clear hK; clear hK; clear hK; refine hK _ ?_; clear hK) | (refine wSeq fun K hK => ?_) | ((first | refine wReg ?_ | refine wDrwQ rfl (by kernel_rfl) ?_ | refine wDrwI ?_ | refine wDrw (by kernel_rfl) ?_); simp only [List.map_cons, List.map_nil, strip]) | ((first | refine wIs fun K hK => ?_ | refine wOs fun K hK => ?_ | refine wQs fun K hK => ?_ | refine CallK_plain ?_ | refine CallQ_plain ?_ | refine CallR_plain ?_ | refine wCond ?_); simp [g0, g2, g12, g13, g14, b0, b1, hlt, hlt', hw, he, hQ]) | (refine wIn ?_; refine And.intro (by kernel_rfl) ?_; try simp only [thenA_n]) | (first | refine wBlock ?_ | refine wScope ?_) | ((first | refine wRet ?_ | refine wExit ?_ | refine wSkip ?_); try simp) | ((first | refine wLabel ?_ | refine wOn ?_ | refine wQn ?_); try simp only [thenA_n])
    refine hL _ (N - 1) (by omega) ⟨k + 1, p2, by omega, hpp, ?_⟩
    simp [g0, g2, g12, g13, g14, b0, b1, hw, lv, ouN, kpI, kpR, pos, ren, ren0, renB, renC, renCs]
  · have hlt' : ¬ (k : Int) < rows.length := by omega
    rw [List.take_of_length_le (by omega)] at hp
    subst hp
    repeat' first | (refine hK _ ?_; clear hK) | (refine hK _ _ ?_; clear hK) | (clear hK; refine hK _ ?_; clear hK) | (clear hK; clear hK; refine hK _ ?_; clear hK) | (clear hK; clear hK; clear hK; refine hK _ ?_; clear hK) | (clear hK; clear hK; clear hK; clear hK; refine hK _ ?_; clear hK) | (refine wSeq fun K hK => ?_) | ((first | refine wReg ?_ | refine wDrwQ rfl (by kernel_rfl) ?_ | refine wDrwI ?_ | refine wDrw (by kernel_rfl) ?_); simp only [List.map_cons, List.map_nil, strip]) | ((first | refine wIs fun K hK => ?_ | refine wOs fun K hK => ?_ | refine wQs fun K hK => ?_ | refine CallK_plain ?_ | refine CallQ_plain ?_ | refine CallR_plain ?_ | refine wCond ?_); simp [g0, g2, g12, g13, g14, b0, b1, hlt, hlt']) | (refine wIn ?_; refine And.intro (by kernel_rfl) ?_; try simp only [thenA_n]) | (first | refine wBlock ?_ | refine wScope ?_) | ((first | refine wRet ?_ | refine wExit ?_ | refine wSkip ?_); try simp) | ((first | refine wLabel ?_ | refine wOn ?_ | refine wQn ?_); try simp only [thenA_n])
    all_goals first | apply hn | apply hr
    all_goals refine ⟨[], by simp, by simp, ?_⟩
    all_goals simp [Try.f80, outR, outB, renB, gaN, b0, b1]
set_option maxHeartbeats 2000000 in
theorem wTx (b : List UInt8) (cs : List PV) (hk : fTx.ok cs) (h : (b ++ fTx.en cs).length ≤ 30000000) : WCon 40 [vOf cs] b (b ++ fTx.en cs) := by
  obtain ⟨x0, x1, x2, x3, x4, x5, x6, x7, rfl, k0, k1, k2, k3, k4, k5, k6⟩ := fTx_sh hk
  have hres : b ++ fTx.en [I x0, I x1, I x2, I x3, I x4, I x5, SB x6, .sl 11 x7] = b ++ fZx.en [I x0, I x1] ++ catI [x2, x3, x4, x5] ++ foS.en [SB x6] ++ (fl 11 fPt).en [.sl 11 x7] := by rw [fTx_en]; simp only [catI2, catI3, catI4, List.append_assoc]
  rw [hres] at h ⊢
  clear hres
  have c0 := wZx b _ k0 (by simp only [List.length_append] at h ⊢; omega)
  have c1 := wnumsF (b ++ fZx.en [I x0, I x1]) [x2, x3, x4, x5] (by intro n hn; simp at hn; rcases hn with rfl | rfl | rfl | rfl <;> simp only [← foI_ok] <;> assumption) (by simp) (by simp only [List.length_append] at h ⊢; omega)
  have c2 := wtextF (b ++ fZx.en [I x0, I x1] ++ catI [x2, x3, x4, x5]) x6 k5 (by simp only [List.length_append] at h ⊢; omega)
  have c3 := wlPt (b ++ fZx.en [I x0, I x1] ++ catI [x2, x3, x4, x5] ++ foS.en [SB x6]) x7 k6 h
  generalize b ++ fZx.en [I x0, I x1] ++ catI [x2, x3, x4, x5] ++ foS.en [SB x6] ++ (fl 11 fPt).en [.sl 11 x7] = y4 at *
  generalize b ++ fZx.en [I x0, I x1] ++ catI [x2, x3, x4, x5] ++ foS.en [SB x6] = y3 at *
  generalize b ++ fZx.en [I x0, I x1] ++ catI [x2, x3, x4, x5] = y2 at *
  generalize b ++ fZx.en [I x0, I x1] = y1 at *
  simp only [vOf2, ints, List.map_cons, List.map_nil] at *
  refine wBodyG Try.tab Try.mixed Try.func40 rfl rfl Try.ntmps40 (by simp) (by simp) fun Q hr hn hp => ?_
  repeat' first | (refine CallK_gen [1024, 1025] c0 (by decide) (by decide) (by simp [blksOf, inN, pos, renB, ren0, ouN, lv, kpI, kpR]) (by simp [argsG, argG, ren0, inN, pos, renCs, renC]) ⟨[], by simp, by simp, ?_⟩; simp [lv, ouN, kpI, kpR, pos, ren, ren0, renB, renC, renCs]; clear c0) | (refine CallK_gen [1024, 1025] c1 (by decide) (by decide) (by simp [blksOf, inN, pos, renB, ren0, ouN, lv, kpI, kpR]) (by simp [argsG, argG, ren0, inN, pos, renCs, renC]) ⟨[], by simp, by simp, ?_⟩; simp [lv, ouN, kpI, kpR, pos, ren, ren0, renB, renC, renCs]; clear c1) | (refine CallK_gen [1024, 1025] c2 (by decide) (by decide) (by simp [blksOf, inN, pos, renB, ren0, ouN, lv, kpI, kpR]) (by simp [argsG, argG, ren0, inN, pos, renCs, renC]) ⟨[], by simp, by simp, ?_⟩; simp [lv, ouN, kpI, kpR, pos, ren, ren0, renB, renC, renCs]; clear c2) | (refine CallK_gen [1024, 1025] c3 (by decide) (by decide) (by simp [blksOf, inN, pos, renB, ren0, ouN, lv, kpI, kpR]) (by simp [argsG, argG, ren0, inN, pos, renCs, renC]) ⟨[], by simp, by simp, ?_⟩; simp [lv, ouN, kpI, kpR, pos, ren, ren0, renB, renC, renCs]; clear c3) | (refine hK _ ?_; clear hK) | (refine hK _ _ ?_; clear hK) | (clear hK; refine hK _ ?_; clear hK) | (clear hK; clear hK; refine hK _ ?_; clear hK) | (clear hK; clear hK; clear hK; refine hK _ ?_; clear hK) | (clear hK; clear hK; clear hK; clear hK; refine hK _ ?_; clear hK) | (refine wSeq fun K hK => ?_) | ((first | refine wReg ?_ | refine wDrwQ rfl (by kernel_rfl) ?_ | refine wDrwI ?_ | refine wDrw (by kernel_rfl) ?_); simp only [List.map_cons, List.map_nil, strip]) | ((first | refine wIs fun K hK => ?_ | refine wOs fun K hK => ?_ | refine wQs fun K hK => ?_ | refine CallK_plain ?_ | refine CallQ_plain ?_ | refine CallR_plain ?_ | refine wCond ?_); simp [lv, ouN, kpI, kpR, pos, ren, ren0, renB, renC, renCs]) | (refine wIn ?_; refine And.intro (by kernel_rfl) ?_; try simp only [thenA_n]) | (first | refine wBlock ?_ | refine wScope ?_) | ((first | refine wRet ?_ | refine wExit ?_ | refine wSkip ?_); try simp) | ((first | refine wLabel ?_ | refine wOn ?_ | refine wQn ?_); try simp only [thenA_n])
  all_goals first | apply hn | apply hr
  all_goals refine ⟨[], by simp, by simp, ?_⟩
  all_goals simp [Try.f40, outR, outB, renB, gaN, lv, ouN, kpI, kpR, pos, ren, ren0, renC, renCs]
set_option maxHeartbeats 2000000 in
theorem wlTx (b : List UInt8) (rows : List (List PV)) (hk : (fl 8 fTx).ok [.sl 8 rows]) (h : (b ++ (fl 8 fTx).en [.sl 8 rows]).length ≤ 30000000) : WCon 126 [.p (.sl 8 rows), .p (.v (.func (.func 40) #[] #[]))] b (b ++ (fl 8 fTx).en [.sl 8 rows]) := by
  obtain ⟨hl, ho⟩ := fl_ok hk
  rw [fl_en, ← List.append_assoc] at h ⊢
  have hL : okI (rows.length : Int) := ⟨by omega, by omega⟩
  have c0 := wnumF b rows.length (foI_ok.2 hL) (by rw [foI_en]; simp only [List.length_append] at h ⊢; omega)
  rw [foI_en] at c0
  generalize b ++ enc (zz (rows.length : Int)) = b2 at *
  refine wBodyG Try.tab Try.mixed Try.func126 rfl rfl Try.ntmps126 (by simp) (by simp) fun Q hr hn hp => ?_
  repeat' first | (refine CallK_gen [1024, 1025] c0 (by decide) (by decide) (by simp [blksOf, inN, pos, renB, ren0, ouN, lv, kpI, kpR]) (by simp [argsG, argG, ren0, inN, pos, renCs, renC]) ⟨[], by simp, by simp, ?_⟩; simp [lv, ouN, kpI, kpR, pos, ren, ren0, renB, renC, renCs]; clear c0) | (refine hK _ ?_; clear hK) | (refine hK _ _ ?_; clear hK) | (clear hK; refine hK _ ?_; clear hK) | (clear hK; clear hK; refine hK _ ?_; clear hK) | (clear hK; clear hK; clear hK; refine hK _ ?_; clear hK) | (clear hK; clear hK; clear hK; clear hK; refine hK _ ?_; clear hK) | (refine wSeq fun K hK => ?_) | ((first | refine wReg ?_ | refine wDrwQ rfl (by kernel_rfl) ?_ | refine wDrwI ?_ | refine wDrw (by kernel_rfl) ?_); simp only [List.map_cons, List.map_nil, strip]) | ((first | refine wIs fun K hK => ?_ | refine wOs fun K hK => ?_ | refine wQs fun K hK => ?_ | refine CallK_plain ?_ | refine CallQ_plain ?_ | refine CallR_plain ?_ | refine wCond ?_); simp [lv, ouN, kpI, kpR, pos, ren, ren0, renB, renC, renCs]) | (refine wIn ?_; refine And.intro (by kernel_rfl) ?_; try simp only [thenA_n]) | (first | refine wBlock ?_ | refine wScope ?_) | ((first | refine wRet ?_ | refine wExit ?_ | refine wSkip ?_); try simp) | ((first | refine wLabel ?_ | refine wOn ?_ | refine wQn ?_); try simp only [thenA_n])
  refine wLoop (fun N st => ∃ k p, k + N = rows.length ∧ p = b2 ++ (rows.take k).flatMap fTx.en ∧ st.s 0 = .ptr 1024 0 ∧ st.s 2 = .p (.v (.func (.func 40) #[] #[])) ∧ st.s 12 = .p (.sl 8 rows) ∧ st.s 13 = .p (I rows.length) ∧ st.s 14 = .p (I k) ∧ st.b 1024 = some (.box 136 [.row 1025]) ∧ st.b 1025 = some (.row 5 1 (by8 p))) rows.length ⟨0, b2, by simp [lv, ouN, kpI, kpR, pos, ren, ren0, renB, renC, renCs]⟩ fun K N st hL ⟨k, p, hk, hp, g0, g2, g12, g13, g14, b0, b1⟩ => ?_
  by_cases hlt : k < rows.length
  · have hlt' : (k : Int) < rows.length := by omega
    have hw := wrapS k _ hlt (by omega)
    have hok := ho rows[k] (List.getElem_mem hlt)
    have hpp : p ++ fTx.en rows[k] = b2 ++ (rows.take (k + 1)).flatMap fTx.en := by rw [flatMap_snoc hlt, hp, List.append_assoc]
    have hpl2 : (p ++ fTx.en rows[k]).length ≤ 30000000 := by rw [hpp]; have := flatMap_take_le fTx.en rows (k + 1); simp only [List.length_append] at h ⊢; omega
    have he : rows[k]? = some rows[k] := List.getElem?_eq_getElem hlt
    generalize hQ : rows[k] = r at *
    obtain ⟨x0, x1, x2, x3, x4, x5, x6, x7, rfl, -⟩ := fTx_sh hok
    have c := wTx p _ hok hpl2
    generalize p ++ fTx.en [I x0, I x1, I x2, I x3, I x4, I x5, SB x6, .sl 11 x7] = p2 at c hpp hpl2
    try simp only [vOf1, vOf2] at c
    repeat' first | (refine CallK_gen [1024, 1025] c (by decide) (by decide) (by simp [blksOf, inN, pos, renB, ren0, ouN, lv, kpI, kpR, b0, b1]) (by simp [argsG, argG, ren0, inN, pos, renCs, renC]) ⟨[], by simp, by simp, ?_⟩; simp [lv, ouN, kpI, kpR, pos, ren, ren0, renB, renC, renCs, b0, b1]) | (refine hK _ ?_; clear hK) | (refine hK _ _ ?_; clear hK) | (clear hK; refine hK _ ?_; clear hK) | (clear hK; clear hK; refine hK _ ?_; clear hK) | (clear hK; clear hK; clear hK; refine hK _ ?_; clear hK) | (clear hK; clear hK; clear hK; clear hK; refine hK _ ?_; clear hK) | (refine wSeq fun K hK => ?_) | ((first | refine wReg ?_ | refine wDrwQ rfl (by kernel_rfl) ?_ | refine wDrwI ?_ | refine wDrw (by kernel_rfl) ?_); simp only [List.map_cons, List.map_nil, strip]) | ((first | refine wIs fun K hK => ?_ | refine wOs fun K hK => ?_ | refine wQs fun K hK => ?_ | refine CallK_plain ?_ | refine CallQ_plain ?_ | refine CallR_plain ?_ | refine wCond ?_); simp [g0, g2, g12, g13, g14, b0, b1, hlt, hlt', hw, he, hQ]) | (refine wIn ?_; refine And.intro (by kernel_rfl) ?_; try simp only [thenA_n]) | (first | refine wBlock ?_ | refine wScope ?_) | ((first | refine wRet ?_ | refine wExit ?_ | refine wSkip ?_); try simp) | ((first | refine wLabel ?_ | refine wOn ?_ | refine wQn ?_); try simp only [thenA_n])
    refine hL _ (N - 1) (by omega) ⟨k + 1, p2, by omega, hpp, ?_⟩
    simp [g0, g2, g12, g13, g14, b0, b1, hw, lv, ouN, kpI, kpR, pos, ren, ren0, renB, renC, renCs]
  · have hlt' : ¬ (k : Int) < rows.length := by omega
    rw [List.take_of_length_le (by omega)] at hp
    subst hp
    repeat' first | (refine hK _ ?_; clear hK) | (refine hK _ _ ?_; clear hK) | (clear hK; refine hK _ ?_; clear hK) | (clear hK; clear hK; refine hK _ ?_; clear hK) | (clear hK; clear hK; clear hK; refine hK _ ?_; clear hK) | (clear hK; clear hK; clear hK; clear hK; refine hK _ ?_; clear hK) | (refine wSeq fun K hK => ?_) | ((first | refine wReg ?_ | refine wDrwQ rfl (by kernel_rfl) ?_ | refine wDrwI ?_ | refine wDrw (by kernel_rfl) ?_); simp only [List.map_cons, List.map_nil, strip]) | ((first | refine wIs fun K hK => ?_ | refine wOs fun K hK => ?_ | refine wQs fun K hK => ?_ | refine CallK_plain ?_ | refine CallQ_plain ?_ | refine CallR_plain ?_ | refine wCond ?_); simp [g0, g2, g12, g13, g14, b0, b1, hlt, hlt']) | (refine wIn ?_; refine And.intro (by kernel_rfl) ?_; try simp only [thenA_n]) | (first | refine wBlock ?_ | refine wScope ?_) | ((first | refine wRet ?_ | refine wExit ?_ | refine wSkip ?_); try simp) | ((first | refine wLabel ?_ | refine wOn ?_ | refine wQn ?_); try simp only [thenA_n])
    all_goals first | apply hn | apply hr
    all_goals refine ⟨[], by simp, by simp, ?_⟩
    all_goals simp [Try.f126, outR, outB, renB, gaN, b0, b1]
/- Records laid: states, requests. -/
set_option maxHeartbeats 2000000 in
theorem wlNd (b : List UInt8) (rows : List (List PV)) (hk : (fl 5 fNd).ok [.sl 5 rows]) (h : (b ++ (fl 5 fNd).en [.sl 5 rows]).length ≤ 30000000) : WCon 82 [.p (.sl 5 rows), .p (.v (.func (.func 83) #[] #[]))] b (b ++ (fl 5 fNd).en [.sl 5 rows]) := by
  obtain ⟨hl, ho⟩ := fl_ok hk
  rw [fl_en, ← List.append_assoc] at h ⊢
  have hL : okI (rows.length : Int) := ⟨by omega, by omega⟩
  have c0 := wnumF b rows.length (foI_ok.2 hL) (by rw [foI_en]; simp only [List.length_append] at h ⊢; omega)
  rw [foI_en] at c0
  generalize b ++ enc (zz (rows.length : Int)) = b2 at *
  refine wBodyG Try.tab Try.mixed Try.func82 rfl rfl Try.ntmps82 (by simp) (by simp) fun Q hr hn hp => ?_
  repeat' first | (refine CallK_gen [1024, 1025] c0 (by decide) (by decide) (by simp [blksOf, inN, pos, renB, ren0, ouN, lv, kpI, kpR]) (by simp [argsG, argG, ren0, inN, pos, renCs, renC]) ⟨[], by simp, by simp, ?_⟩; simp [lv, ouN, kpI, kpR, pos, ren, ren0, renB, renC, renCs]; clear c0) | (refine hK _ ?_; clear hK) | (refine hK _ _ ?_; clear hK) | (clear hK; refine hK _ ?_; clear hK) | (clear hK; clear hK; refine hK _ ?_; clear hK) | (clear hK; clear hK; clear hK; refine hK _ ?_; clear hK) | (clear hK; clear hK; clear hK; clear hK; refine hK _ ?_; clear hK) | (refine wSeq fun K hK => ?_) | ((first | refine wReg ?_ | refine wDrwQ rfl (by kernel_rfl) ?_ | refine wDrwI ?_ | refine wDrw (by kernel_rfl) ?_); simp only [List.map_cons, List.map_nil, strip]) | ((first | refine wIs fun K hK => ?_ | refine wOs fun K hK => ?_ | refine wQs fun K hK => ?_ | refine CallK_plain ?_ | refine CallQ_plain ?_ | refine CallR_plain ?_ | refine wCond ?_); simp [lv, ouN, kpI, kpR, pos, ren, ren0, renB, renC, renCs]) | (refine wIn ?_; refine And.intro (by kernel_rfl) ?_; try simp only [thenA_n]) | (first | refine wBlock ?_ | refine wScope ?_) | ((first | refine wRet ?_ | refine wExit ?_ | refine wSkip ?_); try simp) | ((first | refine wLabel ?_ | refine wOn ?_ | refine wQn ?_); try simp only [thenA_n])
  refine wLoop (fun N st => ∃ k p, k + N = rows.length ∧ p = b2 ++ (rows.take k).flatMap fNd.en ∧ st.s 0 = .ptr 1024 0 ∧ st.s 2 = .p (.v (.func (.func 83) #[] #[])) ∧ st.s 12 = .p (.sl 5 rows) ∧ st.s 13 = .p (I rows.length) ∧ st.s 14 = .p (I k) ∧ st.b 1024 = some (.box 136 [.row 1025]) ∧ st.b 1025 = some (.row 5 1 (by8 p))) rows.length ⟨0, b2, by simp [lv, ouN, kpI, kpR, pos, ren, ren0, renB, renC, renCs]⟩ fun K N st hL ⟨k, p, hk, hp, g0, g2, g12, g13, g14, b0, b1⟩ => ?_
  by_cases hlt : k < rows.length
  · have hlt' : (k : Int) < rows.length := by omega
    have hw := wrapS k _ hlt (by omega)
    have hok := ho rows[k] (List.getElem_mem hlt)
    have hpp : p ++ fNd.en rows[k] = b2 ++ (rows.take (k + 1)).flatMap fNd.en := by rw [flatMap_snoc hlt, hp, List.append_assoc]
    have hpl2 : (p ++ fNd.en rows[k]).length ≤ 30000000 := by rw [hpp]; have := flatMap_take_le fNd.en rows (k + 1); simp only [List.length_append] at h ⊢; omega
    have he : rows[k]? = some rows[k] := List.getElem?_eq_getElem hlt
    generalize hQ : rows[k] = r at *
    obtain ⟨x0, x1, x2, x3, x4, rfl, -⟩ := fNd_sh hok
    have c := wNd p _ hok hpl2
    generalize p ++ fNd.en [SB x0, SB x1, I x2, I x3, I x4] = p2 at c hpp hpl2
    try simp only [vOf1, vOf2] at c
    repeat' first | (refine CallK_gen [1024, 1025] c (by decide) (by decide) (by simp [blksOf, inN, pos, renB, ren0, ouN, lv, kpI, kpR, b0, b1]) (by simp [argsG, argG, ren0, inN, pos, renCs, renC]) ⟨[], by simp, by simp, ?_⟩; simp [lv, ouN, kpI, kpR, pos, ren, ren0, renB, renC, renCs, b0, b1]) | (refine hK _ ?_; clear hK) | (refine hK _ _ ?_; clear hK) | (clear hK; refine hK _ ?_; clear hK) | (clear hK; clear hK; refine hK _ ?_; clear hK) | (clear hK; clear hK; clear hK; refine hK _ ?_; clear hK) | (clear hK; clear hK; clear hK; clear hK; refine hK _ ?_; clear hK) | (refine wSeq fun K hK => ?_) | ((first | refine wReg ?_ | refine wDrwQ rfl (by kernel_rfl) ?_ | refine wDrwI ?_ | refine wDrw (by kernel_rfl) ?_); simp only [List.map_cons, List.map_nil, strip]) | ((first | refine wIs fun K hK => ?_ | refine wOs fun K hK => ?_ | refine wQs fun K hK => ?_ | refine CallK_plain ?_ | refine CallQ_plain ?_ | refine CallR_plain ?_ | refine wCond ?_); simp [g0, g2, g12, g13, g14, b0, b1, hlt, hlt', hw, he, hQ]) | (refine wIn ?_; refine And.intro (by kernel_rfl) ?_; try simp only [thenA_n]) | (first | refine wBlock ?_ | refine wScope ?_) | ((first | refine wRet ?_ | refine wExit ?_ | refine wSkip ?_); try simp) | ((first | refine wLabel ?_ | refine wOn ?_ | refine wQn ?_); try simp only [thenA_n])
    refine hL _ (N - 1) (by omega) ⟨k + 1, p2, by omega, hpp, ?_⟩
    simp [g0, g2, g12, g13, g14, b0, b1, hw, lv, ouN, kpI, kpR, pos, ren, ren0, renB, renC, renCs]
  · have hlt' : ¬ (k : Int) < rows.length := by omega
    rw [List.take_of_length_le (by omega)] at hp
    subst hp
    repeat' first | (refine hK _ ?_; clear hK) | (refine hK _ _ ?_; clear hK) | (clear hK; refine hK _ ?_; clear hK) | (clear hK; clear hK; refine hK _ ?_; clear hK) | (clear hK; clear hK; clear hK; refine hK _ ?_; clear hK) | (clear hK; clear hK; clear hK; clear hK; refine hK _ ?_; clear hK) | (refine wSeq fun K hK => ?_) | ((first | refine wReg ?_ | refine wDrwQ rfl (by kernel_rfl) ?_ | refine wDrwI ?_ | refine wDrw (by kernel_rfl) ?_); simp only [List.map_cons, List.map_nil, strip]) | ((first | refine wIs fun K hK => ?_ | refine wOs fun K hK => ?_ | refine wQs fun K hK => ?_ | refine CallK_plain ?_ | refine CallQ_plain ?_ | refine CallR_plain ?_ | refine wCond ?_); simp [g0, g2, g12, g13, g14, b0, b1, hlt, hlt']) | (refine wIn ?_; refine And.intro (by kernel_rfl) ?_; try simp only [thenA_n]) | (first | refine wBlock ?_ | refine wScope ?_) | ((first | refine wRet ?_ | refine wExit ?_ | refine wSkip ?_); try simp) | ((first | refine wLabel ?_ | refine wOn ?_ | refine wQn ?_); try simp only [thenA_n])
    all_goals first | apply hn | apply hr
    all_goals refine ⟨[], by simp, by simp, ?_⟩
    all_goals simp [Try.f82, outR, outB, renB, gaN, b0, b1]
set_option maxHeartbeats 2000000 in
theorem wSt (b : List UInt8) (cs : List PV) (hk : fSt.ok cs) (h : (b ++ fSt.en cs).length ≤ 30000000) : WCon 46 [vOf cs] b (b ++ fSt.en cs) := by
  obtain ⟨x0, x1, x2, x3, x4, x5, x6, x7, x8, rfl, k0, k1, k2, k3, k4⟩ := fSt_sh hk
  have hres : b ++ fSt.en [.sl 5 x0, .sl 1 x1, I x2, I x3, I x4, I x5, .sl 4 x6, I x7, I x8] = b ++ (fl 5 fNd).en [.sl 5 x0] ++ (fl 1 foI).en [.sl 1 x1] ++ foI.en [I x2] ++ fCf.en [I x3, I x4, I x5, .sl 4 x6] ++ fZx.en [I x7, I x8] := by rw [fSt_en]; simp only [catI2, catI3, catI4, List.append_assoc]
  rw [hres] at h ⊢
  clear hres
  have c0 := wlNd b x0 k0 (by simp only [List.length_append] at h ⊢; omega)
  have c1 := wlI (b ++ (fl 5 fNd).en [.sl 5 x0]) x1 k1 (by simp only [List.length_append] at h ⊢; omega)
  have c2 := wnumF (b ++ (fl 5 fNd).en [.sl 5 x0] ++ (fl 1 foI).en [.sl 1 x1]) x2 k2 (by simp only [List.length_append] at h ⊢; omega)
  have c3 := wCf (b ++ (fl 5 fNd).en [.sl 5 x0] ++ (fl 1 foI).en [.sl 1 x1] ++ foI.en [I x2]) _ k3 (by simp only [List.length_append] at h ⊢; omega)
  have c4 := wZx (b ++ (fl 5 fNd).en [.sl 5 x0] ++ (fl 1 foI).en [.sl 1 x1] ++ foI.en [I x2] ++ fCf.en [I x3, I x4, I x5, .sl 4 x6]) _ k4 h
  generalize b ++ (fl 5 fNd).en [.sl 5 x0] ++ (fl 1 foI).en [.sl 1 x1] ++ foI.en [I x2] ++ fCf.en [I x3, I x4, I x5, .sl 4 x6] ++ fZx.en [I x7, I x8] = y5 at *
  generalize b ++ (fl 5 fNd).en [.sl 5 x0] ++ (fl 1 foI).en [.sl 1 x1] ++ foI.en [I x2] ++ fCf.en [I x3, I x4, I x5, .sl 4 x6] = y4 at *
  generalize b ++ (fl 5 fNd).en [.sl 5 x0] ++ (fl 1 foI).en [.sl 1 x1] ++ foI.en [I x2] = y3 at *
  generalize b ++ (fl 5 fNd).en [.sl 5 x0] ++ (fl 1 foI).en [.sl 1 x1] = y2 at *
  generalize b ++ (fl 5 fNd).en [.sl 5 x0] = y1 at *
  simp only [vOf2, ints, List.map_cons, List.map_nil] at *
  refine wBodyG Try.tab Try.mixed Try.func46 rfl rfl Try.ntmps46 (by simp) (by simp) fun Q hr hn hp => ?_
  repeat' first | (refine CallK_gen [1024, 1025] c0 (by decide) (by decide) (by simp [blksOf, inN, pos, renB, ren0, ouN, lv, kpI, kpR]) (by simp [argsG, argG, ren0, inN, pos, renCs, renC]) ⟨[], by simp, by simp, ?_⟩; simp [lv, ouN, kpI, kpR, pos, ren, ren0, renB, renC, renCs]; clear c0) | (refine CallK_gen [1024, 1025] c1 (by decide) (by decide) (by simp [blksOf, inN, pos, renB, ren0, ouN, lv, kpI, kpR]) (by simp [argsG, argG, ren0, inN, pos, renCs, renC]) ⟨[], by simp, by simp, ?_⟩; simp [lv, ouN, kpI, kpR, pos, ren, ren0, renB, renC, renCs]; clear c1) | (refine CallK_gen [1024, 1025] c2 (by decide) (by decide) (by simp [blksOf, inN, pos, renB, ren0, ouN, lv, kpI, kpR]) (by simp [argsG, argG, ren0, inN, pos, renCs, renC]) ⟨[], by simp, by simp, ?_⟩; simp [lv, ouN, kpI, kpR, pos, ren, ren0, renB, renC, renCs]; clear c2) | (refine CallK_gen [1024, 1025] c3 (by decide) (by decide) (by simp [blksOf, inN, pos, renB, ren0, ouN, lv, kpI, kpR]) (by simp [argsG, argG, ren0, inN, pos, renCs, renC]) ⟨[], by simp, by simp, ?_⟩; simp [lv, ouN, kpI, kpR, pos, ren, ren0, renB, renC, renCs]; clear c3) | (refine CallK_gen [1024, 1025] c4 (by decide) (by decide) (by simp [blksOf, inN, pos, renB, ren0, ouN, lv, kpI, kpR]) (by simp [argsG, argG, ren0, inN, pos, renCs, renC]) ⟨[], by simp, by simp, ?_⟩; simp [lv, ouN, kpI, kpR, pos, ren, ren0, renB, renC, renCs]; clear c4) | (refine hK _ ?_; clear hK) | (refine hK _ _ ?_; clear hK) | (clear hK; refine hK _ ?_; clear hK) | (clear hK; clear hK; refine hK _ ?_; clear hK) | (clear hK; clear hK; clear hK; refine hK _ ?_; clear hK) | (clear hK; clear hK; clear hK; clear hK; refine hK _ ?_; clear hK) | (refine wSeq fun K hK => ?_) | ((first | refine wReg ?_ | refine wDrwQ rfl (by kernel_rfl) ?_ | refine wDrwI ?_ | refine wDrw (by kernel_rfl) ?_); simp only [List.map_cons, List.map_nil, strip]) | ((first | refine wIs fun K hK => ?_ | refine wOs fun K hK => ?_ | refine wQs fun K hK => ?_ | refine CallK_plain ?_ | refine CallQ_plain ?_ | refine CallR_plain ?_ | refine wCond ?_); simp [lv, ouN, kpI, kpR, pos, ren, ren0, renB, renC, renCs]) | (refine wIn ?_; refine And.intro (by kernel_rfl) ?_; try simp only [thenA_n]) | (first | refine wBlock ?_ | refine wScope ?_) | ((first | refine wRet ?_ | refine wExit ?_ | refine wSkip ?_); try simp) | ((first | refine wLabel ?_ | refine wOn ?_ | refine wQn ?_); try simp only [thenA_n])
  all_goals first | apply hn | apply hr
  all_goals refine ⟨[], by simp, by simp, ?_⟩
  all_goals simp [Try.f46, outR, outB, renB, gaN, lv, ouN, kpI, kpR, pos, ren, ren0, renC, renCs]
set_option maxHeartbeats 2000000 in
theorem wlOp (b : List UInt8) (rows : List (List PV)) (hk : (fl 6 fOp).ok [.sl 6 rows]) (h : (b ++ (fl 6 fOp).en [.sl 6 rows]).length ≤ 30000000) : WCon 91 [.p (.sl 6 rows), .p (.v (.func (.func 92) #[] #[]))] b (b ++ (fl 6 fOp).en [.sl 6 rows]) := by
  obtain ⟨hl, ho⟩ := fl_ok hk
  rw [fl_en, ← List.append_assoc] at h ⊢
  have hL : okI (rows.length : Int) := ⟨by omega, by omega⟩
  have c0 := wnumF b rows.length (foI_ok.2 hL) (by rw [foI_en]; simp only [List.length_append] at h ⊢; omega)
  rw [foI_en] at c0
  generalize b ++ enc (zz (rows.length : Int)) = b2 at *
  refine wBodyG Try.tab Try.mixed Try.func91 rfl rfl Try.ntmps91 (by simp) (by simp) fun Q hr hn hp => ?_
  repeat' first | (refine CallK_gen [1024, 1025] c0 (by decide) (by decide) (by simp [blksOf, inN, pos, renB, ren0, ouN, lv, kpI, kpR]) (by simp [argsG, argG, ren0, inN, pos, renCs, renC]) ⟨[], by simp, by simp, ?_⟩; simp [lv, ouN, kpI, kpR, pos, ren, ren0, renB, renC, renCs]; clear c0) | (refine hK _ ?_; clear hK) | (refine hK _ _ ?_; clear hK) | (clear hK; refine hK _ ?_; clear hK) | (clear hK; clear hK; refine hK _ ?_; clear hK) | (clear hK; clear hK; clear hK; refine hK _ ?_; clear hK) | (clear hK; clear hK; clear hK; clear hK; refine hK _ ?_; clear hK) | (refine wSeq fun K hK => ?_) | ((first | refine wReg ?_ | refine wDrwQ rfl (by kernel_rfl) ?_ | refine wDrwI ?_ | refine wDrw (by kernel_rfl) ?_); simp only [List.map_cons, List.map_nil, strip]) | ((first | refine wIs fun K hK => ?_ | refine wOs fun K hK => ?_ | refine wQs fun K hK => ?_ | refine CallK_plain ?_ | refine CallQ_plain ?_ | refine CallR_plain ?_ | refine wCond ?_); simp [lv, ouN, kpI, kpR, pos, ren, ren0, renB, renC, renCs]) | (refine wIn ?_; refine And.intro (by kernel_rfl) ?_; try simp only [thenA_n]) | (first | refine wBlock ?_ | refine wScope ?_) | ((first | refine wRet ?_ | refine wExit ?_ | refine wSkip ?_); try simp) | ((first | refine wLabel ?_ | refine wOn ?_ | refine wQn ?_); try simp only [thenA_n])
  refine wLoop (fun N st => ∃ k p, k + N = rows.length ∧ p = b2 ++ (rows.take k).flatMap fOp.en ∧ st.s 0 = .ptr 1024 0 ∧ st.s 2 = .p (.v (.func (.func 92) #[] #[])) ∧ st.s 12 = .p (.sl 6 rows) ∧ st.s 13 = .p (I rows.length) ∧ st.s 14 = .p (I k) ∧ st.b 1024 = some (.box 136 [.row 1025]) ∧ st.b 1025 = some (.row 5 1 (by8 p))) rows.length ⟨0, b2, by simp [lv, ouN, kpI, kpR, pos, ren, ren0, renB, renC, renCs]⟩ fun K N st hL ⟨k, p, hk, hp, g0, g2, g12, g13, g14, b0, b1⟩ => ?_
  by_cases hlt : k < rows.length
  · have hlt' : (k : Int) < rows.length := by omega
    have hw := wrapS k _ hlt (by omega)
    have hok := ho rows[k] (List.getElem_mem hlt)
    have hpp : p ++ fOp.en rows[k] = b2 ++ (rows.take (k + 1)).flatMap fOp.en := by rw [flatMap_snoc hlt, hp, List.append_assoc]
    have hpl2 : (p ++ fOp.en rows[k]).length ≤ 30000000 := by rw [hpp]; have := flatMap_take_le fOp.en rows (k + 1); simp only [List.length_append] at h ⊢; omega
    have he : rows[k]? = some rows[k] := List.getElem?_eq_getElem hlt
    generalize hQ : rows[k] = r at *
    obtain ⟨x0, x1, x2, x3, x4, x5, rfl, -⟩ := fOp_sh hok
    have c := wOp p _ hok hpl2
    generalize p ++ fOp.en [I x0, SB x1, SB x2, I x3, B x4, B x5] = p2 at c hpp hpl2
    try simp only [vOf1, vOf2] at c
    repeat' first | (refine CallK_gen [1024, 1025] c (by decide) (by decide) (by simp [blksOf, inN, pos, renB, ren0, ouN, lv, kpI, kpR, b0, b1]) (by simp [argsG, argG, ren0, inN, pos, renCs, renC]) ⟨[], by simp, by simp, ?_⟩; simp [lv, ouN, kpI, kpR, pos, ren, ren0, renB, renC, renCs, b0, b1]) | (refine hK _ ?_; clear hK) | (refine hK _ _ ?_; clear hK) | (clear hK; refine hK _ ?_; clear hK) | (clear hK; clear hK; refine hK _ ?_; clear hK) | (clear hK; clear hK; clear hK; refine hK _ ?_; clear hK) | (clear hK; clear hK; clear hK; clear hK; refine hK _ ?_; clear hK) | (refine wSeq fun K hK => ?_) | ((first | refine wReg ?_ | refine wDrwQ rfl (by kernel_rfl) ?_ | refine wDrwI ?_ | refine wDrw (by kernel_rfl) ?_); simp only [List.map_cons, List.map_nil, strip]) | ((first | refine wIs fun K hK => ?_ | refine wOs fun K hK => ?_ | refine wQs fun K hK => ?_ | refine CallK_plain ?_ | refine CallQ_plain ?_ | refine CallR_plain ?_ | refine wCond ?_); simp [g0, g2, g12, g13, g14, b0, b1, hlt, hlt', hw, he, hQ]) | (refine wIn ?_; refine And.intro (by kernel_rfl) ?_; try simp only [thenA_n]) | (first | refine wBlock ?_ | refine wScope ?_) | ((first | refine wRet ?_ | refine wExit ?_ | refine wSkip ?_); try simp) | ((first | refine wLabel ?_ | refine wOn ?_ | refine wQn ?_); try simp only [thenA_n])
    refine hL _ (N - 1) (by omega) ⟨k + 1, p2, by omega, hpp, ?_⟩
    simp [g0, g2, g12, g13, g14, b0, b1, hw, lv, ouN, kpI, kpR, pos, ren, ren0, renB, renC, renCs]
  · have hlt' : ¬ (k : Int) < rows.length := by omega
    rw [List.take_of_length_le (by omega)] at hp
    subst hp
    repeat' first | (refine hK _ ?_; clear hK) | (refine hK _ _ ?_; clear hK) | (clear hK; refine hK _ ?_; clear hK) | (clear hK; clear hK; refine hK _ ?_; clear hK) | (clear hK; clear hK; clear hK; refine hK _ ?_; clear hK) | (clear hK; clear hK; clear hK; clear hK; refine hK _ ?_; clear hK) | (refine wSeq fun K hK => ?_) | ((first | refine wReg ?_ | refine wDrwQ rfl (by kernel_rfl) ?_ | refine wDrwI ?_ | refine wDrw (by kernel_rfl) ?_); simp only [List.map_cons, List.map_nil, strip]) | ((first | refine wIs fun K hK => ?_ | refine wOs fun K hK => ?_ | refine wQs fun K hK => ?_ | refine CallK_plain ?_ | refine CallQ_plain ?_ | refine CallR_plain ?_ | refine wCond ?_); simp [g0, g2, g12, g13, g14, b0, b1, hlt, hlt']) | (refine wIn ?_; refine And.intro (by kernel_rfl) ?_; try simp only [thenA_n]) | (first | refine wBlock ?_ | refine wScope ?_) | ((first | refine wRet ?_ | refine wExit ?_ | refine wSkip ?_); try simp) | ((first | refine wLabel ?_ | refine wOn ?_ | refine wQn ?_); try simp only [thenA_n])
    all_goals first | apply hn | apply hr
    all_goals refine ⟨[], by simp, by simp, ?_⟩
    all_goals simp [Try.f91, outR, outB, renB, gaN, b0, b1]
set_option maxHeartbeats 2000000 in
theorem wRq (b : List UInt8) (cs : List PV) (hk : fRq.ok cs) (h : (b ++ fRq.en cs).length ≤ 30000000) : WCon 58 [vOf cs] b (b ++ fRq.en cs) := by
  obtain ⟨x0, x1, x2, x3, x4, x5, x6, x7, x8, rfl, k0, k1, k2, k3, k4, k5, k6, k7⟩ := fRq_sh hk
  have hres : b ++ fRq.en [I x0, I x1, I x2, .sl 6 x3, I x4, .sl 4 x5, .sl 1 x6, I x7, I x8] = b ++ catI [x0, x1, x2] ++ (fl 6 fOp).en [.sl 6 x3] ++ foI.en [I x4] ++ (fl 4 fMb).en [.sl 4 x5] ++ (fl 1 foI).en [.sl 1 x6] ++ fZx.en [I x7, I x8] := by rw [fRq_en]; simp only [catI2, catI3, catI4, List.append_assoc]
  rw [hres] at h ⊢
  clear hres
  have c0 := wnumsF b [x0, x1, x2] (by intro n hn; simp at hn; rcases hn with rfl | rfl | rfl <;> simp only [← foI_ok] <;> assumption) (by simp) (by simp only [List.length_append] at h ⊢; omega)
  have c1 := wlOp (b ++ catI [x0, x1, x2]) x3 k3 (by simp only [List.length_append] at h ⊢; omega)
  have c2 := wnumF (b ++ catI [x0, x1, x2] ++ (fl 6 fOp).en [.sl 6 x3]) x4 k4 (by simp only [List.length_append] at h ⊢; omega)
  have c3 := wlMb (b ++ catI [x0, x1, x2] ++ (fl 6 fOp).en [.sl 6 x3] ++ foI.en [I x4]) x5 k5 (by simp only [List.length_append] at h ⊢; omega)
  have c4 := wlI (b ++ catI [x0, x1, x2] ++ (fl 6 fOp).en [.sl 6 x3] ++ foI.en [I x4] ++ (fl 4 fMb).en [.sl 4 x5]) x6 k6 (by simp only [List.length_append] at h ⊢; omega)
  have c5 := wZx (b ++ catI [x0, x1, x2] ++ (fl 6 fOp).en [.sl 6 x3] ++ foI.en [I x4] ++ (fl 4 fMb).en [.sl 4 x5] ++ (fl 1 foI).en [.sl 1 x6]) _ k7 h
  generalize b ++ catI [x0, x1, x2] ++ (fl 6 fOp).en [.sl 6 x3] ++ foI.en [I x4] ++ (fl 4 fMb).en [.sl 4 x5] ++ (fl 1 foI).en [.sl 1 x6] ++ fZx.en [I x7, I x8] = y6 at *
  generalize b ++ catI [x0, x1, x2] ++ (fl 6 fOp).en [.sl 6 x3] ++ foI.en [I x4] ++ (fl 4 fMb).en [.sl 4 x5] ++ (fl 1 foI).en [.sl 1 x6] = y5 at *
  generalize b ++ catI [x0, x1, x2] ++ (fl 6 fOp).en [.sl 6 x3] ++ foI.en [I x4] ++ (fl 4 fMb).en [.sl 4 x5] = y4 at *
  generalize b ++ catI [x0, x1, x2] ++ (fl 6 fOp).en [.sl 6 x3] ++ foI.en [I x4] = y3 at *
  generalize b ++ catI [x0, x1, x2] ++ (fl 6 fOp).en [.sl 6 x3] = y2 at *
  generalize b ++ catI [x0, x1, x2] = y1 at *
  simp only [vOf2, ints, List.map_cons, List.map_nil] at *
  refine wBodyG Try.tab Try.mixed Try.func58 rfl rfl Try.ntmps58 (by simp) (by simp) fun Q hr hn hp => ?_
  repeat' first | (refine CallK_gen [1024, 1025] c0 (by decide) (by decide) (by simp [blksOf, inN, pos, renB, ren0, ouN, lv, kpI, kpR]) (by simp [argsG, argG, ren0, inN, pos, renCs, renC]) ⟨[], by simp, by simp, ?_⟩; simp [lv, ouN, kpI, kpR, pos, ren, ren0, renB, renC, renCs]; clear c0) | (refine CallK_gen [1024, 1025] c1 (by decide) (by decide) (by simp [blksOf, inN, pos, renB, ren0, ouN, lv, kpI, kpR]) (by simp [argsG, argG, ren0, inN, pos, renCs, renC]) ⟨[], by simp, by simp, ?_⟩; simp [lv, ouN, kpI, kpR, pos, ren, ren0, renB, renC, renCs]; clear c1) | (refine CallK_gen [1024, 1025] c2 (by decide) (by decide) (by simp [blksOf, inN, pos, renB, ren0, ouN, lv, kpI, kpR]) (by simp [argsG, argG, ren0, inN, pos, renCs, renC]) ⟨[], by simp, by simp, ?_⟩; simp [lv, ouN, kpI, kpR, pos, ren, ren0, renB, renC, renCs]; clear c2) | (refine CallK_gen [1024, 1025] c3 (by decide) (by decide) (by simp [blksOf, inN, pos, renB, ren0, ouN, lv, kpI, kpR]) (by simp [argsG, argG, ren0, inN, pos, renCs, renC]) ⟨[], by simp, by simp, ?_⟩; simp [lv, ouN, kpI, kpR, pos, ren, ren0, renB, renC, renCs]; clear c3) | (refine CallK_gen [1024, 1025] c4 (by decide) (by decide) (by simp [blksOf, inN, pos, renB, ren0, ouN, lv, kpI, kpR]) (by simp [argsG, argG, ren0, inN, pos, renCs, renC]) ⟨[], by simp, by simp, ?_⟩; simp [lv, ouN, kpI, kpR, pos, ren, ren0, renB, renC, renCs]; clear c4) | (refine CallK_gen [1024, 1025] c5 (by decide) (by decide) (by simp [blksOf, inN, pos, renB, ren0, ouN, lv, kpI, kpR]) (by simp [argsG, argG, ren0, inN, pos, renCs, renC]) ⟨[], by simp, by simp, ?_⟩; simp [lv, ouN, kpI, kpR, pos, ren, ren0, renB, renC, renCs]; clear c5) | (refine hK _ ?_; clear hK) | (refine hK _ _ ?_; clear hK) | (clear hK; refine hK _ ?_; clear hK) | (clear hK; clear hK; refine hK _ ?_; clear hK) | (clear hK; clear hK; clear hK; refine hK _ ?_; clear hK) | (clear hK; clear hK; clear hK; clear hK; refine hK _ ?_; clear hK) | (refine wSeq fun K hK => ?_) | ((first | refine wReg ?_ | refine wDrwQ rfl (by kernel_rfl) ?_ | refine wDrwI ?_ | refine wDrw (by kernel_rfl) ?_); simp only [List.map_cons, List.map_nil, strip]) | ((first | refine wIs fun K hK => ?_ | refine wOs fun K hK => ?_ | refine wQs fun K hK => ?_ | refine CallK_plain ?_ | refine CallQ_plain ?_ | refine CallR_plain ?_ | refine wCond ?_); simp [lv, ouN, kpI, kpR, pos, ren, ren0, renB, renC, renCs]) | (refine wIn ?_; refine And.intro (by kernel_rfl) ?_; try simp only [thenA_n]) | (first | refine wBlock ?_ | refine wScope ?_) | ((first | refine wRet ?_ | refine wExit ?_ | refine wSkip ?_); try simp) | ((first | refine wLabel ?_ | refine wOn ?_ | refine wQn ?_); try simp only [thenA_n])
  all_goals first | apply hn | apply hr
  all_goals refine ⟨[], by simp, by simp, ?_⟩
  all_goals simp [Try.f58, outR, outB, renB, gaN, lv, ouN, kpI, kpR, pos, ren, ren0, renC, renCs]
set_option maxHeartbeats 2000000 in
theorem wlZx (b : List UInt8) (rows : List (List PV)) (hk : (fl 2 fZx).ok [.sl 2 rows]) (h : (b ++ (fl 2 fZx).en [.sl 2 rows]).length ≤ 30000000) : WCon 89 [.p (.sl 2 rows), .p (.v (.func (.func 52) #[] #[]))] b (b ++ (fl 2 fZx).en [.sl 2 rows]) := by
  obtain ⟨hl, ho⟩ := fl_ok hk
  rw [fl_en, ← List.append_assoc] at h ⊢
  have hL : okI (rows.length : Int) := ⟨by omega, by omega⟩
  have c0 := wnumF b rows.length (foI_ok.2 hL) (by rw [foI_en]; simp only [List.length_append] at h ⊢; omega)
  rw [foI_en] at c0
  generalize b ++ enc (zz (rows.length : Int)) = b2 at *
  refine wBodyG Try.tab Try.mixed Try.func89 rfl rfl Try.ntmps89 (by simp) (by simp) fun Q hr hn hp => ?_
  repeat' first | (refine CallK_gen [1024, 1025] c0 (by decide) (by decide) (by simp [blksOf, inN, pos, renB, ren0, ouN, lv, kpI, kpR]) (by simp [argsG, argG, ren0, inN, pos, renCs, renC]) ⟨[], by simp, by simp, ?_⟩; simp [lv, ouN, kpI, kpR, pos, ren, ren0, renB, renC, renCs]; clear c0) | (refine hK _ ?_; clear hK) | (refine hK _ _ ?_; clear hK) | (clear hK; refine hK _ ?_; clear hK) | (clear hK; clear hK; refine hK _ ?_; clear hK) | (clear hK; clear hK; clear hK; refine hK _ ?_; clear hK) | (clear hK; clear hK; clear hK; clear hK; refine hK _ ?_; clear hK) | (refine wSeq fun K hK => ?_) | ((first | refine wReg ?_ | refine wDrwQ rfl (by kernel_rfl) ?_ | refine wDrwI ?_ | refine wDrw (by kernel_rfl) ?_); simp only [List.map_cons, List.map_nil, strip]) | ((first | refine wIs fun K hK => ?_ | refine wOs fun K hK => ?_ | refine wQs fun K hK => ?_ | refine CallK_plain ?_ | refine CallQ_plain ?_ | refine CallR_plain ?_ | refine wCond ?_); simp [lv, ouN, kpI, kpR, pos, ren, ren0, renB, renC, renCs]) | (refine wIn ?_; refine And.intro (by kernel_rfl) ?_; try simp only [thenA_n]) | (first | refine wBlock ?_ | refine wScope ?_) | ((first | refine wRet ?_ | refine wExit ?_ | refine wSkip ?_); try simp) | ((first | refine wLabel ?_ | refine wOn ?_ | refine wQn ?_); try simp only [thenA_n])
  refine wLoop (fun N st => ∃ k p, k + N = rows.length ∧ p = b2 ++ (rows.take k).flatMap fZx.en ∧ st.s 0 = .ptr 1024 0 ∧ st.s 2 = .p (.v (.func (.func 52) #[] #[])) ∧ st.s 12 = .p (.sl 2 rows) ∧ st.s 13 = .p (I rows.length) ∧ st.s 14 = .p (I k) ∧ st.b 1024 = some (.box 136 [.row 1025]) ∧ st.b 1025 = some (.row 5 1 (by8 p))) rows.length ⟨0, b2, by simp [lv, ouN, kpI, kpR, pos, ren, ren0, renB, renC, renCs]⟩ fun K N st hL ⟨k, p, hk, hp, g0, g2, g12, g13, g14, b0, b1⟩ => ?_
  by_cases hlt : k < rows.length
  · have hlt' : (k : Int) < rows.length := by omega
    have hw := wrapS k _ hlt (by omega)
    have hok := ho rows[k] (List.getElem_mem hlt)
    have hpp : p ++ fZx.en rows[k] = b2 ++ (rows.take (k + 1)).flatMap fZx.en := by rw [flatMap_snoc hlt, hp, List.append_assoc]
    have hpl2 : (p ++ fZx.en rows[k]).length ≤ 30000000 := by rw [hpp]; have := flatMap_take_le fZx.en rows (k + 1); simp only [List.length_append] at h ⊢; omega
    have he : rows[k]? = some rows[k] := List.getElem?_eq_getElem hlt
    generalize hQ : rows[k] = r at *
    obtain ⟨x0, x1, rfl, -⟩ := fZx_sh hok
    have c := wZx p _ hok hpl2
    generalize p ++ fZx.en [I x0, I x1] = p2 at c hpp hpl2
    try simp only [vOf1, vOf2] at c
    repeat' first | (refine CallK_gen [1024, 1025] c (by decide) (by decide) (by simp [blksOf, inN, pos, renB, ren0, ouN, lv, kpI, kpR, b0, b1]) (by simp [argsG, argG, ren0, inN, pos, renCs, renC]) ⟨[], by simp, by simp, ?_⟩; simp [lv, ouN, kpI, kpR, pos, ren, ren0, renB, renC, renCs, b0, b1]) | (refine hK _ ?_; clear hK) | (refine hK _ _ ?_; clear hK) | (clear hK; refine hK _ ?_; clear hK) | (clear hK; clear hK; refine hK _ ?_; clear hK) | (clear hK; clear hK; clear hK; refine hK _ ?_; clear hK) | (clear hK; clear hK; clear hK; clear hK; refine hK _ ?_; clear hK) | (refine wSeq fun K hK => ?_) | ((first | refine wReg ?_ | refine wDrwQ rfl (by kernel_rfl) ?_ | refine wDrwI ?_ | refine wDrw (by kernel_rfl) ?_); simp only [List.map_cons, List.map_nil, strip]) | ((first | refine wIs fun K hK => ?_ | refine wOs fun K hK => ?_ | refine wQs fun K hK => ?_ | refine CallK_plain ?_ | refine CallQ_plain ?_ | refine CallR_plain ?_ | refine wCond ?_); simp [g0, g2, g12, g13, g14, b0, b1, hlt, hlt', hw, he, hQ]) | (refine wIn ?_; refine And.intro (by kernel_rfl) ?_; try simp only [thenA_n]) | (first | refine wBlock ?_ | refine wScope ?_) | ((first | refine wRet ?_ | refine wExit ?_ | refine wSkip ?_); try simp) | ((first | refine wLabel ?_ | refine wOn ?_ | refine wQn ?_); try simp only [thenA_n])
    refine hL _ (N - 1) (by omega) ⟨k + 1, p2, by omega, hpp, ?_⟩
    simp [g0, g2, g12, g13, g14, b0, b1, hw, lv, ouN, kpI, kpR, pos, ren, ren0, renB, renC, renCs]
  · have hlt' : ¬ (k : Int) < rows.length := by omega
    rw [List.take_of_length_le (by omega)] at hp
    subst hp
    repeat' first | (refine hK _ ?_; clear hK) | (refine hK _ _ ?_; clear hK) | (clear hK; refine hK _ ?_; clear hK) | (clear hK; clear hK; refine hK _ ?_; clear hK) | (clear hK; clear hK; clear hK; refine hK _ ?_; clear hK) | (clear hK; clear hK; clear hK; clear hK; refine hK _ ?_; clear hK) | (refine wSeq fun K hK => ?_) | ((first | refine wReg ?_ | refine wDrwQ rfl (by kernel_rfl) ?_ | refine wDrwI ?_ | refine wDrw (by kernel_rfl) ?_); simp only [List.map_cons, List.map_nil, strip]) | ((first | refine wIs fun K hK => ?_ | refine wOs fun K hK => ?_ | refine wQs fun K hK => ?_ | refine CallK_plain ?_ | refine CallQ_plain ?_ | refine CallR_plain ?_ | refine wCond ?_); simp [g0, g2, g12, g13, g14, b0, b1, hlt, hlt']) | (refine wIn ?_; refine And.intro (by kernel_rfl) ?_; try simp only [thenA_n]) | (first | refine wBlock ?_ | refine wScope ?_) | ((first | refine wRet ?_ | refine wExit ?_ | refine wSkip ?_); try simp) | ((first | refine wLabel ?_ | refine wOn ?_ | refine wQn ?_); try simp only [thenA_n])
    all_goals first | apply hn | apply hr
    all_goals refine ⟨[], by simp, by simp, ?_⟩
    all_goals simp [Try.f89, outR, outB, renB, gaN, b0, b1]
end Go.Proofs.Ytleejpddecjhcaa
