/- Texts that the proof needs: AvMore. -/
import Derived.Test.YthiccfadhllajaaP13JudgePrimary
import Derived.Test.YthiccfadhllajaaP14JudgePrimary
namespace Go.Av
set_option linter.unusedSimpArgs false
open Go
set_option linter.unusedVariables false
theorem Con.toPure [Glob] {P : Program} {g : FuncId} {args : List V} {t c : Nat} {l : List (List PV)} (h : Con P g args [] (.ret (.row 2048) [.row t c l] [])) : ACon P g args (.p (.sl c l)) :=
 fun F w m xs hp hl ha => (h F w m xs hp hl ha).mono fun en w' ⟨hk, ho⟩ => by
  obtain ⟨x, m', he, hp', how, hnm, hv⟩ := ho
  refine ⟨hk, x, m', he, Hp.none hp'.fold nmF_nil fun g e he => (hp'.glob g e he).less fun k hk => .inl hk, fun n k h => by simp [owns, nmF_nil] at h, hnm, .of0 (v := .p _) ?_⟩
  have hx : x = m'.r 2048 := hv
  rw [hx]
  refine RP.of_row (e := t) (hp'.blks 2048 _ (by simp [nmF])) ⟨Nat.le_refl _, fun _ _ _ => rfl, fun k _ hg => .inl (Gd_nil hg)⟩ fun k hk hg => ?_
  exact (hp'.own 2048 k (by unfold owns; simp [nmF, hk])).2 (Gd_nil hg)
structure Rz where
 dst : Option Nat
 nm : Option Nat
 cr : Option Nat
 ns : List Nat
 ft : List Nat
 cl : Bool
 rd : Bool
def opnO [Glob] (st : St) (o : Oper) : List Nat := o.op.operands.toList.flatMap fun x => nms (evO st x)
def footO [Glob] (st : St) (o : Oper) : List Nat := opnO st o ++ if rdO o then (opnO st o).flatMap (ftB st) else []
def njO (st : St) : Operand -> Bool
 | .tmp t => nj (st.s t)
 | _ => true
def clnO [Glob] (st : St) (o : Oper) : Bool := o.op.operands.toList.all (njO st) && (!rdO o || (opnO st o).all (clB st))
def AI [Glob] (P : Program) (T : TypeId -> Option Ty) (N : Nat) (g : Array Oper) : List Oper -> List Rz -> St -> (List Rz -> St -> Prop) -> Prop
 | [], rs, st, K => K rs st
 | o :: rest, rs, st, K => match wantedA g st o with
  | none => False
  | some q => (q = true -> EffR P T N st o (fun e => AI P T N g rest (rs ++ [⟨e.dst, e.nm, e.cr, e.names, footO st o, clnO st o, rdO o⟩]) (e.app st) K)) ∧
   (q = false -> dstOK N o.dst /\ AI P T N g rest (rs ++ [⟨o.dst, none, none, [], footO st o, clnO st o, rdO o⟩]) ⟨putS st.s o.dst (.tup []), st.b⟩ K)
def indZ (ops : Array Oper) (i k : Nat) (r r' : Rz) : Bool :=
 difO r.dst r'.dst && difO r.nm r'.nm && offO r.cr r'.ns && offO r'.cr r.ns && match ops[i]?, ops[k]? with
  | some o, some o' => offO r.dst (o'.looksAt ops) && offO (if r'.rd then r.nm else r.cr) r'.ft && offO r'.dst (o.looksAt ops) && offO (if r.rd then r'.nm else r'.cr) r.ft
  | _, _ => false
def okZ (ops : Array Oper) (rs : List Rz) : Bool := downB ops && let M := masks ops ops.size
 ((List.range rs.length).all fun i => ((rs[i]?).map (·.cl)).getD true || totM M rs.length i) && (List.range rs.length).all fun k => (List.range k).all fun i => ancB M k i || match rs[i]?, rs[k]? with
 | some r, some r' => indZ ops i k r r'
 | _, _ => true
def Rz.of (r : Rc) : Rz := ⟨r.e.dst, r.e.nm, r.e.cr, r.e.names, r.ft, r.cl, r.rd⟩
section
variable {P : Program} {T : TypeId -> Option Ty} {N : Nat} {ops : Array Oper} {st : St} {o : Oper}
theorem opn_ft [Glob] {q : Bool} (hw : wantedA ops st o = some q) : ftN ops st o = opnO st o := by
 unfold ftN opnO Oper.looksAt
 rw [List.flatMap_append]
 have key : ∀ a b c : List Nat, a = c -> b = [] -> a ++ b = c := fun a b c h1 h2 => by rw [h1, h2, List.append_nil]
 refine key _ _ _ ?_ ?_
 ·induction o.op.operands.toList with
  | nil => rfl
  | cons x l ih =>
   cases x with
   | tmp t => simp only [List.filterMap_cons, List.flatMap_cons, ih]; rfl
   | const c =>
    simp only [List.filterMap_cons, List.flatMap_cons, ih]
    have : nms (evO st (.const c)) = [] := by
     simp only [evO]
     split
     ·rfl
     ·split <;> rfl
    rw [this]; rfl
   | global g =>
    simp only [List.filterMap_cons, List.flatMap_cons, ih]
    have : nms (evO st (.global g)) = [] := by
     simp only [evO]
     split <;> rfl
    rw [this]; rfl
   | func f => simp only [List.filterMap_cons, List.flatMap_cons, ih]; rfl
 ·unfold wantedA at hw
  split at hw
  ·rename_i hg; rw [hg]; rfl
  ·rename_i j want hg
   rw [hg]
   split at hw
   ·simp at hw
   ·rename_i d hd
    simp only [hd]
    split at hw
    ·rename_i b hb; simp [hb, nms, nms0]
    ·rename_i hb; simp [hb, nms]
    ·simp at hw
theorem cln_of [Glob] {q : Bool} (hw : wantedA ops st o = some q) : cln ops st o = clnO st o := by
 have hg : ∀ t, o.guard.isSome = true -> t ∈ (match o.guard with
  | some (j, _) => ((ops[j]?).bind (·.dst)).toList
  | none => []) -> nj (st.s t) = true := fun t _ ht => by
  unfold wantedA at hw
  split at hw
  ·rename_i hg; rw [hg] at ht; simp at ht
  ·rename_i j want hg
   rw [hg] at ht
   split at hw
   ·simp at hw
   ·rename_i d hd
    simp only [hd, Option.toList_some, List.mem_singleton] at ht
    subst ht
    split at hw
    ·rename_i b hb; rw [hb]; rfl
    ·rename_i hb; rw [hb]; rfl
    ·simp at hw
 unfold clnO cln
 rw [opn_ft hw]
 congr 1
 rw [Bool.eq_iff_iff]
 simp only [List.all_eq_true]
 constructor
 ·intro h x hx
  cases x with
  | tmp t => exact h t (by unfold Oper.looksAt; exact List.mem_append_left _ (List.mem_filterMap.2 ⟨_, hx, rfl⟩))
  | _ => rfl
 ·intro h t ht
  unfold Oper.looksAt at ht
  rcases List.mem_append.1 ht with ht | ht
  ·obtain ⟨x, hx, hxt⟩ := List.mem_filterMap.1 ht
   cases x with
   | tmp t' => simp at hxt; subst hxt; exact h _ hx
   | _ => simp at hxt
  ·cases hgd : o.guard with
   | none => rw [hgd] at ht; simp at ht
   | some g => exact hg t (by rw [hgd]; rfl) ht
theorem foot_of [Glob] {q : Bool} (hw : wantedA ops st o = some q) : foot ops st o = footO st o := by unfold foot footO; rw [opn_ft hw]
theorem wantedA_dst (g : Array Oper) (h : ∀ j : Nat, (g[j]?).bind Oper.dst = (ops[j]?).bind Oper.dst) : wantedA g st (strip o) = wantedA ops st o := by
 unfold wantedA
 simp only [strip]
 split
 ·rfl
 ·rw [h]
theorem EffR_strip [Glob] {K : Ef -> Prop} : EffR P T N st (strip o) K = EffR P T N st o K := rfl
theorem AI_runs [Glob] {g : Array Oper} (hg : ∀ j : Nat, (g[j]?).bind Oper.dst = (ops[j]?).bind Oper.dst) {K : List Rz -> St -> Prop} : ∀ (l : List Oper) (rs : List Rc) (st : St), AI P T N g (l.map strip) (rs.map Rz.of) st K -> rs.length + l.length = ops.size -> (∀ j, l[j]? = none \/ l[j]? = ops[rs.length + j]?) →
 ∃ rs' st', Runs P T N ops rs.length rs st rs' st' /\ K (rs'.map Rz.of) st' /\ ∀ (i : Nat) (r : Rc) (o : Oper), rs'[i]? = some r -> ops[i]? = some o -> rs.length <= i -> r.lks = o.looksAt ops
 | [], rs, st, h, hl, _ => ⟨rs, st, .done rs st (by simpa using hl), h, fun i r o hi _ hle => by
  have := (List.getElem?_eq_some_iff.1 hi).1; omega⟩
 | o :: rest, rs, st, h, hl, ho => by
  have ho0 : ops[rs.length]? = some o := by
   rcases ho 0 with h0 | h0
   ·simp at h0
   ·simpa using h0.symm
  simp only [List.map_cons, AI] at h
  rw [wantedA_dst g hg] at h
  have key : ∀ {e : Ef} {q : Bool}, wantedA ops st o = some q -> OpOK P T N ops st o e -> AI P T N g (rest.map strip) (rs.map Rz.of ++ [⟨e.dst, e.nm, e.cr, e.names, footO st o, clnO st o, rdO o⟩]) (e.app st) K →
   ∃ rs' st', Runs P T N ops rs.length rs st rs' st' /\ K (rs'.map Rz.of) st' /\ ∀ (i : Nat) (r : Rc) (o : Oper), rs'[i]? = some r -> ops[i]? = some o -> rs.length <= i -> r.lks = o.looksAt ops := fun {e q} hw hok hA => by
   have e1 : rs.map Rz.of ++ [⟨e.dst, e.nm, e.cr, e.names, footO st o, clnO st o, rdO o⟩] = (rs ++ [(⟨e, o.looksAt ops, foot ops st o, cln ops st o, rdO o⟩ : Rc)]).map Rz.of := by
    rw [List.map_append, foot_of hw, cln_of hw]; rfl
   rw [e1] at hA
   obtain ⟨rs', st', h1, h2, h3⟩ := AI_runs hg rest _ _ hA (by simp at hl ⊢; omega) (fun j => by
    have := ho (j + 1)
    simp only [List.getElem?_cons_succ] at this
    simp only [List.length_append, List.length_cons, List.length_nil]
    rw [show rs.length + 1 + j = rs.length + (j + 1) by omega]; exact this)
   have hpre : rs'[rs.length]? = some ⟨e, o.looksAt ops, foot ops st o, cln ops st o, rdO o⟩ := by
    have : ∀ {n : Nat} {a b : List Rc} {s s' : St}, Runs P T N ops n a s b s' -> ∀ (i : Nat) (r : Rc), a[i]? = some r -> b[i]? = some r := fun h => by
     induction h with
     | done => exact fun i r h => h
     | step a s o e b s' _ _ _ ih => exact fun i r h => ih i r (by rw [List.getElem?_append_left (List.getElem?_eq_some_iff.1 h).1]; exact h)
    exact this h1 _ _ (by simp)
   refine ⟨rs', st', .step rs st o e rs' st' ho0 hok (by simpa using h1), h2, fun i r o' hi ho' hle => ?_⟩
   by_cases hil : i = rs.length
   ·subst hil
    rw [ho0] at ho'
    rw [hpre] at hi
    simp only [Option.some.injEq] at hi ho'
    rw [<- hi, <- ho']
   ·exact h3 i r o' hi ho' (by simp; omega)
  split at h
  ·exact h.elim
  ·rename_i q hw
   obtain ⟨ht, hf⟩ := h
   cases q with
   | true =>
    obtain ⟨e, he, hA⟩ := EffR_trace (EffR_strip ▸ ht rfl)
    exact key hw (.inl ⟨hw, he⟩) hA
   | false =>
    obtain ⟨hd, hA⟩ := hf rfl
    exact key (e := .put o.dst (.tup [])) hw (.inr ⟨hw, hd, rfl⟩) hA
structure WI [Glob] (P : Program) (T : TypeId -> Option Ty) (N : Nat) (g : Array Oper) (l : List Oper) (rs : List Rz) (st : St) (K : List Rz -> St -> Prop) : Prop where
 h : AI P T N g l rs st K
theorem wDrwI [Glob] {id : Nat} {l : List Oper} {Q : AExit -> St -> Prop} (h : WI P T N (gd (l.map (·.dst))) (l.map strip) [] st (fun rs st' => okZ l.toArray rs = true /\ Q .normal st')) : WC P T N (.region id l.toArray true) Q st := by
 obtain ⟨rs, st', h1, ⟨h2, h3⟩, h4⟩ := AI_runs (ops := l.toArray) (fun j => by rw [gd_get, List.getElem?_map]; simp; cases l[j]? <;> rfl) l [] st h.h (by simp) (fun j => .inr (by simp))
 simp only [okZ, Bool.and_eq_true] at h2
 obtain ⟨hd, h2a, h2⟩ := h2
 have hok : okRs (masks l.toArray l.toArray.size) rs = true := by
  simp only [okRs, Bool.and_eq_true, List.all_eq_true, List.mem_range, List.length_map] at h2 h2a ⊢
  refine ⟨fun i hi => ?_, ?_⟩
  ·have := h2a i hi
   rw [List.getElem?_map] at this
   rw [<- this]
   cases rs[i]? <;> rfl
  intro k hk i hi
  have := h2 k hk i hi
  rw [List.getElem?_map, List.getElem?_map, List.getElem?_eq_getElem hk, List.getElem?_eq_getElem (show i < rs.length by omega)] at this
  rw [List.getElem?_eq_getElem hk, List.getElem?_eq_getElem (show i < rs.length by omega)]
  simp only [Option.map_some, Bool.or_eq_true] at this ⊢
  rcases this with h5 | h5
  ·exact .inl h5
  ·right
   unfold indZ at h5
   split at h5
   ·rename_i o o' ho ho'
    have e1 := h4 i rs[i] o (List.getElem?_eq_getElem (by omega)) ho (by simp)
    have e2 := h4 k rs[k] o' (List.getElem?_eq_getElem hk) ho' (by simp)
    simp only [indR, indE, Bool.and_eq_true, Rz.of] at h5 ⊢
    rw [e1, e2]
    obtain ⟨⟨⟨⟨a1, a2⟩, a3⟩, a4⟩, ⟨⟨b1, b2⟩, b3⟩, b4⟩ := h5
    exact ⟨⟨⟨⟨⟨⟨⟨a1, a2⟩, a3⟩, a4⟩, b1⟩, b2⟩, b3⟩, b4⟩
   ·simp at h5
 exact ⟨(show awpDraw P T N l.toArray st (Q .normal) (fun y => Q (.pan y)) from .inr ⟨[], h1.tree hd hok h3⟩)⟩
def quietO (o : Oper) : Bool := match o.op with
 | .alloc _ | .box _ _ | .makeSlice _ _ _ | .store _ _ _ | .panic _ => false
 | .call { callee := .builtin .append, .. } => false
 | _ => true
theorem wDrwQ [Glob] {id : Nat} {l : List Oper} {Q : AExit -> St -> Prop} (_hq : l.all quietO = true) (hok : drawOK l.toArray l.toArray.size = true) (h : WQ P T N (gd (l.map (·.dst))) (l.map strip) st (Q .normal)) : WC P T N (.region id l.toArray true) Q st := wDrw hok h
variable {g : Array Oper} {rest : List Oper} {rs : List Rz} {K : List Rz -> St -> Prop}
theorem wIn [Glob] (h : K rs st) : WI P T N g [] rs st K := ⟨h⟩
theorem wIs [Glob] (h : ∀ K' : List Rz -> St -> Prop, (∀ rs' st', WI P T N g rest rs' st' K -> K' rs' st') →
 match wantedA g st o with
 | none => False
 | some q => (q = true -> EffR P T N st o (fun e => K' (rs ++ [⟨e.dst, e.nm, e.cr, e.names, footO st o, clnO st o, rdO o⟩]) (e.app st))) /\ (q = false -> dstOK N o.dst /\ K' (rs ++ [⟨o.dst, none, none, [], footO st o, clnO st o, rdO o⟩]) ⟨putS st.s o.dst (.tup []), st.b⟩)) : WI P T N g (o :: rest) rs st K :=
 ⟨h (fun rs' st' => AI P T N g rest rs' st' K) fun rs' st' hw => hw.h⟩
end
def CallH [Glob] (P : Program) (d : Option Nat) (g : FuncId) (u ub : Option (List V)) (X : Prop) (K : Ef -> Prop) : Prop :=
 CallF P g u ub (fun v => K (.put d v)) ∨
 (∃ us d' e c l, (u = some us \/ ub = some us /\ flatL l = true) /\ d = some d' /\ Con P g us [] (.ret (.row 2048) [.row e c l] []) /\ K (.crt d' d' (.row e c l) (.row d'))) \/ X
theorem CallR_plain [Glob] {P : Program} {T : TypeId -> Option Ty} {st : St} {d : Option Nat} {g : FuncId} {ts : List TypeId} {as : List V} {K : Ef -> Prop} (h : CallH P d g (argsP T ts as) (argsB T st ts as) False K) : CallR P T st d g ts as K := by
 rcases h with h | h | h
 ·exact .inl h
 ·exact .inr (.inl h)
 ·exact h.elim
theorem CallH.pure [Glob] {P : Program} {d : Option Nat} {g : FuncId} {us : List V} {ub : Option (List V)} {X : Prop} {v : V} {K : Ef -> Prop} (hc : ACon P g us v) (hp : pureV v = true) (hk : K (.put d v)) : CallH P d g (some us) ub X K := .inl (.inl ⟨us, v, rfl, hc, hp, hk⟩)
theorem CallH.lent [Glob] {P : Program} {d : Option Nat} {g : FuncId} {us : List V} {u : Option (List V)} {X : Prop} {v : V} {K : Ef -> Prop} (hc : ACon P g us v) (hp : flatR v = true) (hk : K (.put d v)) : CallH P d g u (some us) X K := .inl (.inr ⟨us, v, rfl, hc, hp, hk⟩)
theorem CallH.own [Glob] {P : Program} {d : Nat} {g : FuncId} {us : List V} {ub : Option (List V)} {X : Prop} {e c : Nat} {l : List (List PV)} {K : Ef -> Prop} (hc : Con P g us [] (.ret (.row 2048) [.row e c l] [])) (hk : K (.crt d d (.row e c l) (.row d))) : CallH P (some d) g (some us) ub X K := .inr (.inl ⟨us, d, e, c, l, .inl rfl, rfl, hc, hk⟩)
attribute [simp] EffK EffM EffR EffA EffS EffB Ef.app Ef.dst Ef.nm Ef.cr Ef.names nms nms0 nmsC nmsB clnO opnO footO njO ftB clB nj nj0 njB isBin isNil rdO Op.operands Call.operands
end Go.Av
