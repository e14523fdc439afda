/- Clients: events that are too many. -/
import Derived.Test.YtefhnofdfnmiaaaCL6
namespace Go.Proofs.Ytefhnofdfnmiaaa
set_option linter.unusedSimpArgs false
set_option linter.unusedVariables false
set_option maxRecDepth 8000
open Go Go.Av
attribute [local simp] Try.T1 Try.T2 Try.T3 Try.T4 Try.T5 Try.T9 Try.T12 Try.T15 Try.T16 Try.T17 Try.T21 Try.T22 Try.T23 Try.T24 Try.T26 Try.T27 Try.T29 Try.T30 Try.T32 Try.T33 Try.T34 Try.T35 Try.T36 Try.T38 Try.T40 Try.T42 Try.T43 Try.T45 Try.T47 Try.T49 Try.T50 Try.T51 Try.T53 Try.T54 Try.T55 Try.T56 Try.T57 Try.T59 Try.T61 Try.T63 Try.T65 Try.T66 Try.T67 Try.T69 Try.T70 Try.T71 Try.T72 Try.T73 Try.T74 Try.T75 Try.T76 Try.T78 Try.T79 Try.T80 Try.T81 Try.T82 Try.T83 Try.T84 Try.T85 Try.T86 Try.T87 Try.T88 Try.T89 Try.T90 Try.T91 Try.T92 Try.T93 Try.T94 Try.T95 Try.T96 Try.T97 Try.T98 Try.T99 Try.T101 Try.T102 Try.T103 Try.T104 Try.T105 Try.T106 Try.T107 Try.T108 Try.T109 Try.T112 Try.T115 Try.T116 Try.T119 Try.T120
attribute [local irreducible] Go.Av.CallK Go.Av.CallE Go.Av.CallQ Go.Av.CallF Go.Av.CallR Go.Av.CallH Go.Av.Con
/-- An op of a request. -/
structure Op6 where
  (k : Int)
  (pa da : List UInt8)
  (v : Int)
  (ow sq : Bool)
def Op6.cells (o : Op6) : List PV := [I o.k, SB o.pa, SB o.da, I o.v, B o.ow, B o.sq]
def ops6 (l : List Op6) : List (List PV) := l.map Op6.cells
@[simp] theorem ops6_len (l : List Op6) : (ops6 l).length = l.length := by simp [ops6]
theorem ops6_get {l : List Op6} {k : Nat} (h : k < l.length) : (ops6 l)[k]? = some [I l[k].k, SB l[k].pa, SB l[k].da, I l[k].v, B l[k].ow, B l[k].sq] := by simp [ops6, h, Op6.cells]
@[simp] theorem ops6_getElem (l : List Op6) (k : Nat) (h : k < (ops6 l).length) : (ops6 l)[k] = [I (l[k]'(by simpa using h)).k, SB (l[k]'(by simpa using h)).pa, SB (l[k]'(by simpa using h)).da, I (l[k]'(by simpa using h)).v, B (l[k]'(by simpa using h)).ow, B (l[k]'(by simpa using h)).sq] := by simp [ops6, Op6.cells]
def evs (l : List Ev6) : List (List PV) := l.map Ev6.cells
@[simp] theorem evs_len (l : List Ev6) : (evs l).length = l.length := by simp [evs]
theorem evs_get {l : List Ev6} {k : Nat} (h : k < l.length) : (evs l)[k]? = some l[k].cells := by simp [evs, h]
theorem evs_getElem (l : List Ev6) (k : Nat) (h : k < (evs l).length) : (evs l)[k] = (l[k]'(by simpa using h)).cells := by simp [evs]
def sLen : PV → Nat
  | .v (.string s) => s.size
  | _ => 0
def oLen (r : List PV) : Nat := (sLen (r.getD 1 (I 0)) + sLen (r.getD 2 (I 0))) / 20
def osum (l : List (List PV)) : Nat := (l.map oLen).sum
theorem osum_take {l : List (List PV)} {k : Nat} (h : k < l.length) : osum (l.take (k + 1)) = osum (l.take k) + oLen l[k] := by
  unfold osum; rw [List.take_succ_eq_append_getElem h, List.map_append, List.sum_append]; simp
def cEv (e : Ev6) : Nat := e.r.ops.length + e.r.put.length + e.r.drop.length + e.w.nm.length + (e.w.pa.length + e.w.ma.length) / 20 + e.w.r.ops.length
def tot (l : List Ev6) : Nat := (l.map fun e => cEv e + osum e.r.ops).sum
theorem tot_take {l : List Ev6} {k : Nat} (h : k < l.length) : tot (l.take (k + 1)) = tot (l.take k) + (cEv l[k] + osum l[k].r.ops) := by
  unfold tot; rw [List.take_succ_eq_append_getElem h, List.map_append, List.sum_append]; simp
def farE (l : List Ev6) : Bool := decide (100 < l.length) || (l.any (fun e => decide (50 < e.r.ops.length)) || (decide (500 < tot l) || decide (90 < l.length)))
/-- What the form's reach bounds. -/
structure OkZ (e : Ev6) : Prop where
  os : ∃ os : List Op6, e.r.ops = ops6 os ∧ ∀ o ∈ os, o.pa.length ≤ 140737488355328 ∧ o.da.length ≤ 140737488355328
  o : e.r.ops.length ≤ 140737488355328
  p : e.r.put.length ≤ 4398046510976
  d : e.r.drop.length ≤ 17592186043904
  n : e.w.nm.length ≤ 140737488355328
  pa : e.w.pa.length ≤ 140737488355328
  ma : e.w.ma.length ≤ 140737488355328
  wo : e.w.r.ops.length ≤ 140737488355328
  wp : e.w.r.put.length ≤ 4398046510976
  wd : e.w.r.drop.length ≤ 17592186043904
theorem OkZ.c {e : Ev6} (h : OkZ e) : cEv e ≤ 844424930131968 := by
  have := h.o; have := h.p; have := h.d; have := h.n; have := h.pa; have := h.ma; have := h.wo
  unfold cEv; omega
theorem osum_bdB {os : List Op6} (B : Nat) (h : ∀ o ∈ os, (o.pa.length + o.da.length) / 20 ≤ B) : ∀ k, osum ((ops6 os).take k) ≤ k * B := by
  intro k
  induction k with
  | zero => simp [osum]
  | succ k ih =>
    rw [Nat.succ_mul]
    by_cases hk : k < (ops6 os).length
    · rw [osum_take hk]
      have hk' : k < os.length := by simpa using hk
      have := h _ (List.getElem_mem hk')
      have e : oLen (ops6 os)[k] = (os[k].pa.length + os[k].da.length) / 20 := by simp [oLen, sLen]
      omega
    · rw [List.take_of_length_le (by omega)] at ih ⊢
      omega
theorem osum_bd {os : List Op6} (h : ∀ o ∈ os, o.pa.length ≤ 140737488355328 ∧ o.da.length ≤ 140737488355328) (k : Nat) (hk : k ≤ 50) : osum ((ops6 os).take k) ≤ 703687441776600 :=
  Nat.le_trans (osum_bdB 14073748835532 (fun o ho => by have := h o ho; omega) k) (Nat.mul_le_mul_right 14073748835532 hk)
theorem tot_bdB {l : List Ev6} (B : Nat) (h : ∀ e ∈ l, cEv e + osum e.r.ops ≤ B) : tot l ≤ l.length * B := by
  induction l with
  | nil => simp [tot]
  | cons e l ih =>
    have ih := ih (fun e he => h e (List.mem_cons_of_mem _ he))
    have h1 := h e (List.mem_cons_self ..)
    have e1 : tot (e :: l) = cEv e + osum e.r.ops + tot l := by simp [tot]
    rw [e1, List.length_cons, Nat.succ_mul]
    omega
theorem tot_bd {l : List Ev6} (h : ∀ e ∈ l, OkZ e) (h5 : ∀ e ∈ l, e.r.ops.length ≤ 50) (hl : l.length ≤ 100) : tot l ≤ 154811237190856800 :=
  Nat.le_trans (tot_bdB 1548112371908568 fun e he => by
    have h1 := (h e he).c
    obtain ⟨os, ho, hb⟩ := (h e he).os
    have h3 := osum_bd hb 50 (Nat.le_refl _)
    rw [← ho, List.take_of_length_le (h5 e he)] at h3
    omega) (Nat.mul_le_mul_right 1548112371908568 hl)
set_option maxHeartbeats 8000000 in
theorem far26_con (l : List Ev6) (h : ∀ e ∈ l, OkZ e) (hl63 : l.length ≤ 9223372036854775807) : ACon Try.prog 5 [.p (.sl 44 (evs l))] (.p (B (farE l))) := by
  by_cases h1 : 100 < l.length
  · have e : farE l = true := by unfold farE; rw [decide_eq_true (by omega), Bool.true_or]
    rw [e]
    have h1' : (100 : Int) < l.length := by omega
    refine wBody Try.tab Try.mixed Try.func5 rfl rfl Try.ntmps5 (by simp) (by simp) fun Q hr hn => ?_
    repeat' first | (refine hK _ ?_; clear hK) | (refine hK _ _ ?_; clear hK) | (clear hK; refine hK _ ?_; clear hK) | (clear hK; clear hK; refine hK _ ?_; clear hK) | (clear hK; clear hK; clear hK; refine hK _ ?_; clear hK) | (clear hK; clear hK; clear hK; clear hK; refine hK _ ?_; clear hK) | (refine wSeq fun K hK => ?_) | ((first | refine wReg ?_ | refine wDrwQ rfl (by kernel_rfl) ?_ | refine wDrwI ?_ | refine wDrw (by kernel_rfl) ?_); simp only [List.map_cons, List.map_nil, strip]) | ((first | refine wIs fun K hK => ?_ | refine wOs fun K hK => ?_ | refine wQs fun K hK => ?_ | refine CallK_plain ?_ | refine CallQ_plain ?_ | refine CallR_plain ?_ | refine wCond ?_); simp [h1, h1']) | (refine wIn ?_; refine And.intro (by kernel_rfl) ?_; try simp only [thenA_n]) | (first | refine wBlock ?_ | refine wScope ?_) | ((first | refine wRet ?_ | refine wExit ?_ | refine wSkip ?_); try simp) | ((first | refine wLabel ?_ | refine wOn ?_ | refine wQn ?_); try simp only [thenA_n])
    all_goals apply hr
    all_goals simp [Try.f5]
  have h1' : ¬ (100 : Int) < l.length := by omega
  refine wBody Try.tab Try.mixed Try.func5 rfl rfl Try.ntmps5 (by simp) (by simp) fun Q hr hn => ?_
  repeat' first | (refine hK _ ?_; clear hK) | (refine hK _ _ ?_; clear hK) | (clear hK; refine hK _ ?_; clear hK) | (clear hK; clear hK; refine hK _ ?_; clear hK) | (clear hK; clear hK; clear hK; refine hK _ ?_; clear hK) | (clear hK; clear hK; clear hK; clear hK; refine hK _ ?_; clear hK) | (refine wSeq fun K hK => ?_) | ((first | refine wReg ?_ | refine wDrwQ rfl (by kernel_rfl) ?_ | refine wDrwI ?_ | refine wDrw (by kernel_rfl) ?_); simp only [List.map_cons, List.map_nil, strip]) | ((first | refine wIs fun K hK => ?_ | refine wOs fun K hK => ?_ | refine wQs fun K hK => ?_ | refine CallK_plain ?_ | refine CallQ_plain ?_ | refine CallR_plain ?_ | refine wCond ?_); simp [h1, h1']) | (refine wIn ?_; refine And.intro (by kernel_rfl) ?_; try simp only [thenA_n]) | (first | refine wBlock ?_ | refine wScope ?_) | ((first | refine wRet ?_ | refine wExit ?_ | refine wSkip ?_); try simp) | ((first | refine wLabel ?_ | refine wOn ?_ | refine wQn ?_); try simp only [thenA_n])
  refine wLoop (fun N st => ∃ (k m : Nat), k + N = l.length ∧ (∀ e ∈ l.take k, e.r.ops.length ≤ 50) ∧ m = tot (l.take k) ∧ st.s 0 = .p (.sl 44 (evs l)) ∧ st.s 4 = .p (I k) ∧ st.s 3 = .p (I m)) l.length ⟨0, 0, by simp [tot]⟩ fun K N st hL ⟨k, m, hk, h5, hm, g0, g4, g3⟩ => ?_
  by_cases hlt : k < l.length
  · have hlt' : (k : Int) < l.length := by omega
    have hw := wrapS k _ hlt (by omega)
    have he := evs_get hlt
    have hb2 := tot_bd (fun e he => h e (List.mem_of_mem_take he)) h5 (by rw [List.length_take]; omega)
    rw [← hm] at hb2
    have ho := h _ (List.getElem_mem hlt)
    have hs := tot_take hlt
    have hin : ∀ e ∈ l.take (k + 1), l[k].r.ops.length ≤ 50 → e.r.ops.length ≤ 50 := fun e he h6 => by
      rw [List.take_succ_eq_append_getElem hlt] at he
      rcases List.mem_append.1 he with he | he
      · exact h5 e he
      · simp at he; rw [he]; exact h6
    have hany : 50 < l[k].r.ops.length → farE l = true := fun h6 => by
      unfold farE
      rw [show l.any (fun e => decide (50 < e.r.ops.length)) = true from List.any_eq_true.2 ⟨_, List.getElem_mem hlt, decide_eq_true h6⟩]
      simp
    generalize hE : l[k] = e at *
    obtain ⟨os, hos, hob⟩ := ho.os
    have b1 := ho.o; have b2 := ho.p; have b3 := ho.d; have b4 := ho.n; have b5 := ho.pa; have b6 := ho.ma; have b7 := ho.wo
    have hce : cEv e = e.r.ops.length + e.r.put.length + e.r.drop.length + e.w.nm.length + (e.w.pa.length + e.w.ma.length) / 20 + e.w.r.ops.length := rfl
    obtain ⟨ek, en, ⟨rk, rs, rx, rdk, rwe, rwn, rops, rput, rdrop⟩, ⟨wcl, wsv, wkd, wxi, wss, wae, wan, ⟨qk, qs, qx, qdk, qwe, qwn, qops, qput, qdrop⟩, wrd, wpa, wwa, wer, wma, wnp, wnd, wnv, wnk, wno, wnm, wnt⟩⟩ := e
    unfold Ev6.cells at he
    simp only at he b1 b2 b3 b4 b5 b6 b7 hos hce hs hin hany
    subst hos
    rw [ops6_len] at b1 hce hin hany
    have hcell := Option.some.inj ((List.getElem?_eq_getElem (by simpa using hlt : k < (evs l).length)).symm.trans he)
    have c1 : os.length < 9223372036854775808 := by omega
    have w1 : IntKind.i64.wrap ((os.length : Int) + rput.length) = ((os.length + rput.length : Nat) : Int) := by rw [wrap_id] <;> omega
    have w2 : IntKind.i64.wrap (((os.length + rput.length : Nat) : Int) + rdrop.length) = ((os.length + rput.length + rdrop.length : Nat) : Int) := by rw [wrap_id] <;> omega
    have w3 : IntKind.i64.wrap (((os.length + rput.length + rdrop.length : Nat) : Int) + wnm.length) = ((os.length + rput.length + rdrop.length + wnm.length : Nat) : Int) := by rw [wrap_id] <;> omega
    have w4 : IntKind.i64.wrap ((wpa.length : Int) + wma.length) = ((wpa.length + wma.length : Nat) : Int) := by rw [wrap_id] <;> omega
    have w5 : IntKind.i64.wrap ((((wpa.length + wma.length : Nat) : Int)).tdiv 20) = (((wpa.length + wma.length) / 20 : Nat) : Int) := by
      rw [Int.tdiv_eq_ediv_of_nonneg (by omega), wrap_id] <;> omega
    have w6 : IntKind.i64.wrap (((os.length + rput.length + rdrop.length + wnm.length : Nat) : Int) + (((wpa.length + wma.length) / 20 : Nat) : Int)) = ((os.length + rput.length + rdrop.length + wnm.length + (wpa.length + wma.length) / 20 : Nat) : Int) := by rw [wrap_id] <;> omega
    have w7 : IntKind.i64.wrap (((os.length + rput.length + rdrop.length + wnm.length + (wpa.length + wma.length) / 20 : Nat) : Int) + qops.length) = ((os.length + rput.length + rdrop.length + wnm.length + (wpa.length + wma.length) / 20 + qops.length : Nat) : Int) := by rw [wrap_id] <;> omega
    rw [← hce] at w7
    have w8 : IntKind.i64.wrap ((m : Int) + (cEv ⟨ek, en, ⟨rk, rs, rx, rdk, rwe, rwn, ops6 os, rput, rdrop⟩, ⟨wcl, wsv, wkd, wxi, wss, wae, wan, ⟨qk, qs, qx, qdk, qwe, qwn, qops, qput, qdrop⟩, wrd, wpa, wwa, wer, wma, wnp, wnd, wnv, wnk, wno, wnm, wnt⟩⟩ : Nat)) = ((m + cEv ⟨ek, en, ⟨rk, rs, rx, rdk, rwe, rwn, ops6 os, rput, rdrop⟩, ⟨wcl, wsv, wkd, wxi, wss, wae, wan, ⟨qk, qs, qx, qdk, qwe, qwn, qops, qput, qdrop⟩, wrd, wpa, wwa, wer, wma, wnp, wnd, wnv, wnk, wno, wnm, wnt⟩⟩ : Nat) : Int) := by
      have := ho.c
      rw [wrap_id] <;> omega
    have hcb := ho.c
    generalize cEv ⟨ek, en, ⟨rk, rs, rx, rdk, rwe, rwn, ops6 os, rput, rdrop⟩, ⟨wcl, wsv, wkd, wxi, wss, wae, wan, ⟨qk, qs, qx, qdk, qwe, qwn, qops, qput, qdrop⟩, wrd, wpa, wwa, wer, wma, wnp, wnd, wnv, wnk, wno, wnm, wnt⟩⟩ = ce at *
    generalize os.length + rput.length + rdrop.length + wnm.length + (wpa.length + wma.length) / 20 = t5 at *
    generalize (wpa.length + wma.length) / 20 = t4 at *
    generalize hS : wpa.length + wma.length = t0 at *
    have w5' : IntKind.i64.wrap ((t0 : Int) / 20) = (t4 : Int) := by rw [Int.tdiv_eq_ediv_of_nonneg (by omega)] at w5; exact w5
    generalize hA : os.length + rput.length + rdrop.length + wnm.length = t3 at *
    generalize hB : os.length + rput.length + rdrop.length = t2 at *
    generalize hC : os.length + rput.length = t1 at *
    clear ho hce
    by_cases h6 : os.length ≤ 50
    case neg =>
      have h6' : (50 : Int) < os.length := by omega
      have h6n : 50 < os.length := by omega
      rw [hany h6n] at hr
      clear hL hany hin
      repeat' first | (refine hK _ ?_; clear hK) | (refine hK _ _ ?_; clear hK) | (clear hK; refine hK _ ?_; clear hK) | (clear hK; clear hK; refine hK _ ?_; clear hK) | (clear hK; clear hK; clear hK; refine hK _ ?_; clear hK) | (clear hK; clear hK; clear hK; clear hK; refine hK _ ?_; clear hK) | (refine wSeq fun K hK => ?_) | ((first | refine wReg ?_ | refine wDrwQ rfl (by kernel_rfl) ?_ | refine wDrwI ?_ | refine wDrw (by kernel_rfl) ?_); simp only [List.map_cons, List.map_nil, strip]) | ((first | refine wIs fun K hK => ?_ | refine wOs fun K hK => ?_ | refine wQs fun K hK => ?_ | refine CallK_plain ?_ | refine CallQ_plain ?_ | refine CallR_plain ?_ | refine wCond ?_); simp [g0, g4, g3, hlt, hlt', hw, he, hcell, c1, w1, w2, w3, w4, w5, w5', w6, w7, w8, h6', h6n]) | (refine wIn ?_; refine And.intro (by kernel_rfl) ?_; try simp only [thenA_n]) | (first | refine wBlock ?_ | refine wScope ?_) | ((first | refine wRet ?_ | refine wExit ?_ | refine wSkip ?_); try simp) | ((first | refine wLabel ?_ | refine wOn ?_ | refine wQn ?_); try simp only [thenA_n])
      all_goals apply hr
      all_goals simp [Try.f5]
    have h6' : ¬ (50 : Int) < os.length := by omega
    have h6n : ¬ 50 < os.length := by omega
    repeat' first | (refine hK _ ?_; clear hK) | (refine hK _ _ ?_; clear hK) | (clear hK; refine hK _ ?_; clear hK) | (clear hK; clear hK; refine hK _ ?_; clear hK) | (clear hK; clear hK; clear hK; refine hK _ ?_; clear hK) | (clear hK; clear hK; clear hK; clear hK; refine hK _ ?_; clear hK) | (refine wSeq fun K hK => ?_) | ((first | refine wReg ?_ | refine wDrwQ rfl (by kernel_rfl) ?_ | refine wDrwI ?_ | refine wDrw (by kernel_rfl) ?_); simp only [List.map_cons, List.map_nil, strip]) | ((first | refine wIs fun K hK => ?_ | refine wOs fun K hK => ?_ | refine wQs fun K hK => ?_ | refine CallK_plain ?_ | refine CallQ_plain ?_ | refine CallR_plain ?_ | refine wCond ?_); simp [g0, g4, g3, hlt, hlt', hw, he, hcell, c1, w1, w2, w3, w4, w5, w5', w6, w7, w8, h6', h6n]) | (refine wIn ?_; refine And.intro (by kernel_rfl) ?_; try simp only [thenA_n]) | (first | refine wBlock ?_ | refine wScope ?_) | ((first | refine wRet ?_ | refine wExit ?_ | refine wSkip ?_); try simp) | ((first | refine wLabel ?_ | refine wOn ?_ | refine wQn ?_); try simp only [thenA_n])
    refine wLoop (fun M st => ∃ (j n : Nat), j + M = os.length ∧ n = m + ce + osum ((ops6 os).take j) ∧ st.s 0 = .p (.sl 44 (evs l)) ∧ st.s 4 = .p (I k) ∧ st.s 3 = .p (I n) ∧ st.s 5 = .ptr 5 0 ∧ st.b 5 = some (.box 40 [.p (I rk), .p (I rs), .p (I rx), .p (.sl 6 (ops6 os)), .p (I rdk), .p (.sl 4 rput), .p (.sl 1 rdrop), .p (I rwe), .p (I rwn)]) ∧ st.s 7 = .p (I j)) os.length ⟨0, m + ce, by simp [osum, g0, g4]⟩ fun K2 M st hM ⟨j, n, hj, hn, g0, g4, g3, g5, b5, g7⟩ => ?_
    by_cases hjt : j < os.length
    · have hjt' : (j : Int) < os.length := by omega
      have hwj := wrapS j _ hjt (by omega)
      have hej := ops6_get hjt
      have hst := osum_take (l := ops6 os) (k := j) (by simpa using hjt)
      have hol : oLen ((ops6 os)[j]'(by simpa using hjt)) = (os[j].pa.length + os[j].da.length) / 20 := by simp [oLen, sLen]
      rw [hol] at hst
      have hbj := hob _ (List.getElem_mem hjt)
      have hbs := osum_bd hob j (by omega)
      generalize hQ : os[j] = q at *
      have v1 : IntKind.i64.wrap ((q.pa.length : Int) + q.da.length) = ((q.pa.length + q.da.length : Nat) : Int) := by rw [wrap_id] <;> omega
      have v2 : IntKind.i64.wrap (((q.pa.length + q.da.length : Nat) : Int).tdiv 20) = (((q.pa.length + q.da.length) / 20 : Nat) : Int) := by
        rw [Int.tdiv_eq_ediv_of_nonneg (by omega), wrap_id] <;> omega
      have v3 : IntKind.i64.wrap ((n : Int) + (((q.pa.length + q.da.length) / 20 : Nat) : Int)) = ((n + (q.pa.length + q.da.length) / 20 : Nat) : Int) := by rw [wrap_id] <;> omega
      generalize (q.pa.length + q.da.length) / 20 = t7 at *
      generalize hD : q.pa.length + q.da.length = t6 at *
      have v2' : IntKind.i64.wrap ((t6 : Int) / 20) = (t7 : Int) := by rw [Int.tdiv_eq_ediv_of_nonneg (by omega)] at v2; exact v2
      repeat' first | (refine hK _ ?_; clear hK) | (refine hK _ _ ?_; clear hK) | (clear hK; refine hK _ ?_; clear hK) | (clear hK; clear hK; refine hK _ ?_; clear hK) | (clear hK; clear hK; clear hK; refine hK _ ?_; clear hK) | (clear hK; clear hK; clear hK; clear hK; refine hK _ ?_; clear hK) | (refine wSeq fun K hK => ?_) | ((first | refine wReg ?_ | refine wDrwQ rfl (by kernel_rfl) ?_ | refine wDrwI ?_ | refine wDrw (by kernel_rfl) ?_); simp only [List.map_cons, List.map_nil, strip]) | ((first | refine wIs fun K hK => ?_ | refine wOs fun K hK => ?_ | refine wQs fun K hK => ?_ | refine CallK_plain ?_ | refine CallQ_plain ?_ | refine CallR_plain ?_ | refine wCond ?_); simp [g0, g4, g3, g5, b5, g7, hjt, hjt', hwj, hej, hQ, v1, v2, v2', v3, c1]) | (refine wIn ?_; refine And.intro (by kernel_rfl) ?_; try simp only [thenA_n]) | (first | refine wBlock ?_ | refine wScope ?_) | ((first | refine wRet ?_ | refine wExit ?_ | refine wSkip ?_); try simp) | ((first | refine wLabel ?_ | refine wOn ?_ | refine wQn ?_); try simp only [thenA_n])
      all_goals refine hM _ (M - 1) (by omega) ⟨j + 1, n + t7, by omega, by omega, ?_⟩
      all_goals simp [g0, g4, g3, g5, b5, g7, hwj, v3, v2, v2']
    · have hjt' : ¬ (j : Int) < os.length := by omega
      rw [List.take_of_length_le (by rw [ops6_len]; omega)] at hn
      repeat' first | (refine hK _ ?_; clear hK) | (refine hK _ _ ?_; clear hK) | (clear hK; refine hK _ ?_; clear hK) | (clear hK; clear hK; refine hK _ ?_; clear hK) | (clear hK; clear hK; clear hK; refine hK _ ?_; clear hK) | (clear hK; clear hK; clear hK; clear hK; refine hK _ ?_; clear hK) | (refine wSeq fun K hK => ?_) | ((first | refine wReg ?_ | refine wDrwQ rfl (by kernel_rfl) ?_ | refine wDrwI ?_ | refine wDrw (by kernel_rfl) ?_); simp only [List.map_cons, List.map_nil, strip]) | ((first | refine wIs fun K hK => ?_ | refine wOs fun K hK => ?_ | refine wQs fun K hK => ?_ | refine CallK_plain ?_ | refine CallQ_plain ?_ | refine CallR_plain ?_ | refine wCond ?_); simp [g0, g4, g3, g5, b5, g7, hjt, hjt', hw, c1]) | (refine wIn ?_; refine And.intro (by kernel_rfl) ?_; try simp only [thenA_n]) | (first | refine wBlock ?_ | refine wScope ?_) | ((first | refine wRet ?_ | refine wExit ?_ | refine wSkip ?_); try simp) | ((first | refine wLabel ?_ | refine wOn ?_ | refine wQn ?_); try simp only [thenA_n])
      all_goals refine hL _ (N - 1) (by omega) ⟨k + 1, n, by omega, fun e he => hin e he h6, by omega, ?_⟩
      all_goals simp [g0, g4, g3, g5, b5, g7, hw]
  · have hlt' : ¬ (k : Int) < l.length := by omega
    rw [List.take_of_length_le (by omega)] at h5 hm
    have e1 : farE l = (decide (500 < m) || decide (90 < l.length)) := by
      unfold farE
      rw [decide_eq_false h1, show l.any (fun e => decide (50 < e.r.ops.length)) = false from List.any_eq_false.2 fun e he => by have := h5 e he; simp; omega, hm]
      simp
    rw [e1] at hr
    by_cases h2 : 500 < m
    · have h2' : (500 : Int) < m := by omega
      repeat' first | (refine hK _ ?_; clear hK) | (refine hK _ _ ?_; clear hK) | (clear hK; refine hK _ ?_; clear hK) | (clear hK; clear hK; refine hK _ ?_; clear hK) | (clear hK; clear hK; clear hK; refine hK _ ?_; clear hK) | (clear hK; clear hK; clear hK; clear hK; refine hK _ ?_; clear hK) | (refine wSeq fun K hK => ?_) | ((first | refine wReg ?_ | refine wDrwQ rfl (by kernel_rfl) ?_ | refine wDrwI ?_ | refine wDrw (by kernel_rfl) ?_); simp only [List.map_cons, List.map_nil, strip]) | ((first | refine wIs fun K hK => ?_ | refine wOs fun K hK => ?_ | refine wQs fun K hK => ?_ | refine CallK_plain ?_ | refine CallQ_plain ?_ | refine CallR_plain ?_ | refine wCond ?_); simp [g0, g4, g3, hlt, hlt', h2, h2']) | (refine wIn ?_; refine And.intro (by kernel_rfl) ?_; try simp only [thenA_n]) | (first | refine wBlock ?_ | refine wScope ?_) | ((first | refine wRet ?_ | refine wExit ?_ | refine wSkip ?_); try simp) | ((first | refine wLabel ?_ | refine wOn ?_ | refine wQn ?_); try simp only [thenA_n])
      all_goals apply hr
      all_goals simp [Try.f5, h2]
    · have h2' : ¬ (500 : Int) < m := by omega
      by_cases h3 : 90 < l.length
      · have h3' : (90 : Int) < l.length := by omega
        repeat' first | (refine hK _ ?_; clear hK) | (refine hK _ _ ?_; clear hK) | (clear hK; refine hK _ ?_; clear hK) | (clear hK; clear hK; refine hK _ ?_; clear hK) | (clear hK; clear hK; clear hK; refine hK _ ?_; clear hK) | (clear hK; clear hK; clear hK; clear hK; refine hK _ ?_; clear hK) | (refine wSeq fun K hK => ?_) | ((first | refine wReg ?_ | refine wDrwQ rfl (by kernel_rfl) ?_ | refine wDrwI ?_ | refine wDrw (by kernel_rfl) ?_); simp only [List.map_cons, List.map_nil, strip]) | ((first | refine wIs fun K hK => ?_ | refine wOs fun K hK => ?_ | refine wQs fun K hK => ?_ | refine CallK_plain ?_ | refine CallQ_plain ?_ | refine CallR_plain ?_ | refine wCond ?_); simp [g0, g4, g3, hlt, hlt', h2, h2', h3, h3']) | (refine wIn ?_; refine And.intro (by kernel_rfl) ?_; try simp only [thenA_n]) | (first | refine wBlock ?_ | refine wScope ?_) | ((first | refine wRet ?_ | refine wExit ?_ | refine wSkip ?_); try simp) | ((first | refine wLabel ?_ | refine wOn ?_ | refine wQn ?_); try simp only [thenA_n])
        all_goals apply hr
        all_goals simp [Try.f5, h2, h3]
      · have h3' : ¬ (90 : Int) < l.length := by omega
        repeat' first | (refine hK _ ?_; clear hK) | (refine hK _ _ ?_; clear hK) | (clear hK; refine hK _ ?_; clear hK) | (clear hK; clear hK; refine hK _ ?_; clear hK) | (clear hK; clear hK; clear hK; refine hK _ ?_; clear hK) | (clear hK; clear hK; clear hK; clear hK; refine hK _ ?_; clear hK) | (refine wSeq fun K hK => ?_) | ((first | refine wReg ?_ | refine wDrwQ rfl (by kernel_rfl) ?_ | refine wDrwI ?_ | refine wDrw (by kernel_rfl) ?_); simp only [List.map_cons, List.map_nil, strip]) | ((first | refine wIs fun K hK => ?_ | refine wOs fun K hK => ?_ | refine wQs fun K hK => ?_ | refine CallK_plain ?_ | refine CallQ_plain ?_ | refine CallR_plain ?_ | refine wCond ?_); simp [g0, g4, g3, hlt, hlt', h2, h2', h3, h3']) | (refine wIn ?_; refine And.intro (by kernel_rfl) ?_; try simp only [thenA_n]) | (first | refine wBlock ?_ | refine wScope ?_) | ((first | refine wRet ?_ | refine wExit ?_ | refine wSkip ?_); try simp) | ((first | refine wLabel ?_ | refine wOn ?_ | refine wQn ?_); try simp only [thenA_n])
        all_goals apply hr
        all_goals simp [Try.f5, h2, h3]
theorem farE_not {l : List Ev6} (h : farE l = false) : l.length ≤ 90 ∧ tot l ≤ 500 := by
  unfold farE at h
  simp only [Bool.or_eq_false_iff, decide_eq_false_iff_not] at h
  omega
theorem tot_mem {l : List Ev6} {e : Ev6} (h : e ∈ l) : cEv e ≤ tot l := by
  induction l with
  | nil => simp at h
  | cons f l ih =>
    have e1 : tot (f :: l) = cEv f + osum f.r.ops + tot l := by simp [tot]
    rw [e1]
    rcases List.mem_cons.1 h with rfl | h
    · omega
    · have := ih h; omega
theorem farE_ok {l : List Ev6} (h : farE l = false) {e : Ev6} (he : e ∈ l) (hz : OkZ e) : OkR e.r ∧ OkW e.w := by
  have h1 := farE_not h
  have h2 := tot_mem he
  unfold cEv at h2
  exact ⟨⟨by omega, hz.p, hz.d⟩, ⟨⟨by omega, hz.wp, hz.wd⟩, by omega⟩⟩
end Go.Proofs.Ytefhnofdfnmiaaa
