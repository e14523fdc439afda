/- Texts that the proof needs: AvMap. -/
import Derived.Test.YthiccfadhllajaaP3JudgePrimary
import Derived.MapKept
namespace Go.Av
set_option linter.unusedSimpArgs false
open Go
set_option linter.unusedVariables false
deriving instance DecidableEq for KS
def keq : PV -> PV -> Bool
 | .v a, .v b => veq a b
 | .agg a, .agg b => ceq (a.map pvv) (b.map pvv)
 | _, _ => false
def mfind (q : PV) : List (PV × PV) -> Nat -> Option (Nat × PV)
 | [], _ => none
 | e :: l, i => if keq q e.1 = true then some (i, e.2) else mfind q l (i + 1)
def mlk (q : PV) (l : List (PV × PV)) : Option PV := (mfind q l 0).map (·.2)
def mput (q v : PV) (l : List (PV × PV)) : List (PV × PV) := match mfind q l 0 with
 | some (i, _) => l.set i (q, v)
 | none => l ++ [(q, v)]
def zpv (y : Ty) : Option PV := match toPs y.zero with
 | some [p] => if y.kd.isAgg then none else some p
 | some (p :: q :: l) => some (.agg (p :: q :: l))
 | _ => none
def alk (T : TypeId -> Option Ty) (st : St) (t : TypeId) (m k : V) (ok : Bool) : Option V :=
 match T t, m, toP k with
 | some y, .row b, some q => match y.kd, st.b b with
  | .map _ e ks, some (.mp ks' l) => if ks' = ks /\ kfit ks q = true then
   (match mlk q l with
    | some p => some (if ok then .tup [.p p, .p (.v (.bool true))] else .p p)
    | none => match T e with
     | some z => match zpv z with
      | some p => some (if ok then .tup [.p p, .p (.v (.bool false))] else .p p)
      | none => none
     | none => none)
   else none
  | _, _ => none
 | _, _, _ => none
variable {P : Program} {T : TypeId -> Option Ty} {w0 : World} {m0 : Nm} {F X : Nat -> Prop} {N : Nat} {st : St} {a : Act} {w : World} {m : Nm}
theorem kfit_i {k : IntKind} {q : PV} (h : kfit (.i k) q = true) : ∃ n, q = .v (.int k n) := by
 cases q with
 | v x => cases x <;> simp [kfit] at h; subst h; exact ⟨_, rfl⟩
 | sl c l => simp [kfit] at h
 | agg l => simp [kfit] at h
theorem kfit_s {ks : List IntKind} {q : PV} (h : kfit (.s ks) q = true) : ∃ l, q = .agg l /\ fitK ks l = true := by
 cases q with
 | v x => cases x <;> simp [kfit] at h
 | sl c l => simp [kfit] at h
 | agg l => exact ⟨l, rfl, h⟩
theorem fitK_cons {k : IntKind} {ks : List IntKind} {x : PV} {c : List PV} (h : fitK (k :: ks) (x :: c) = true) : ∃ n, x = .v (.int k n) /\ fitK ks c = true := by
 cases x with
 | v x => cases x <;> simp [fitK] at h; obtain ⟨rfl, h⟩ := h; exact ⟨_, rfl, h⟩
 | sl c l => simp [fitK] at h
 | agg l => simp [fitK] at h
theorem fitK_uncons {k : IntKind} {ks : List IntKind} {l : List PV} (h : fitK (k :: ks) l = true) : ∃ n r, l = .v (.int k n) :: r /\ fitK ks r = true := by
 cases l with
 | nil => simp [fitK] at h
 | cons x c =>
  obtain ⟨n, rfl, h'⟩ := fitK_cons h
  exact ⟨n, c, rfl, h'⟩
theorem fitK_nil {l : List PV} (h : fitK [] l = true) : l = [] := by
 cases l with
 | nil => rfl
 | cons x c => simp [fitK] at h
theorem findNow_i {R : PV -> Value -> Prop} {k : IntKind} {n : Int} : ∀ {es : List MapEntry} {l : List (PV × PV)} (i : Nat), EntR R (.i k) es l →
 ∃ r, Instr.findNow (.int k) (.int k n) es i = some r /\ (match mfind (.v (.int k n)) l i with
  | some (j, p) => ∃ v, r = some (j, v) /\ R p v
  | none => r = none)
 | [], [], i, _ => ⟨none, rfl, rfl⟩
 | [], _ :: _, _, h => h.elim
 | _ :: _, [], _, h => h.elim
 | e :: es, q :: l, i, h => by
  obtain ⟨⟨h1, h2, h3⟩, h4⟩ := h
  obtain ⟨n', hq⟩ := kfit_i h1
  obtain ⟨q1, q2⟩ := q
  simp only at hq h2 h3
  subst hq
  simp only [Instr.findNow, h2, kval, Instr.sameNow, if_true, mfind, keq, veq]
  by_cases hn : n = n'
  ·subst hn
   simp only [beq_self_eq_true, if_true]
   exact ⟨_, rfl, _, rfl, h3⟩
  ·have : (n == n') = false := by simpa using hn
   simp only [this, Bool.false_eq_true, if_false]
   exact findNow_i (i + 1) h4
theorem findAsk_s {R : PV -> Value -> Prop} {kt : TypeId} {ks : List IntKind} {q : List PV} (hq : fitK ks q = true) (hE : ∀ l', fitK ks l' = true -> ∀ w, (Op.equal kt (.agg (q.map pvv).toArray) (.agg (l'.map pvv).toArray)).run P w = .ok (ceq (q.map pvv) (l'.map pvv)) w) (w : World) :
 ∀ {es : List MapEntry} {l : List (PV × PV)} (i : Nat), EntR R (.s ks) es l →
 ∃ r, (Instr.findAsking kt (.agg (q.map pvv).toArray) es i).run P w = .ok r w /\ (match mfind (.agg q) l i with
  | some (j, p) => ∃ v, r = some (j, v) /\ R p v
  | none => r = none)
 | [], [], i, _ => ⟨none, rfl, rfl⟩
 | [], _ :: _, _, h => h.elim
 | _ :: _, [], _, h => h.elim
 | e :: es, (q1, q2) :: l, i, h => by
  obtain ⟨⟨h1, h2, h3⟩, h4⟩ := h
  obtain ⟨l', hq', hf⟩ := kfit_s h1
  simp only at hq' h2 h3
  subst hq'
  have hr := hE l' hf w
  simp only [Instr.findAsking, h2, kval, Sem.run_bind, hr, mfind, keq]
  by_cases hc : ceq (q.map pvv) (l'.map pvv) = true
  ·simp only [hc, if_true]
   exact ⟨_, rfl, _, rfl, h3⟩
  ·have hc' : ceq (q.map pvv) (l'.map pvv) = false := by simpa using hc
   simp only [hc', Bool.false_eq_true, if_false]
   exact findAsk_s hq hE w (i + 1) h4
theorem findKey_run {R : PV -> Value -> Prop} {kt : TypeId} {ks : KS} (hK : KeyOK P kt ks) {q : PV} (hq : kfit ks q = true) {es : List MapEntry} {l : List (PV × PV)} (hE : EntR R ks es l) (w : World) :
 ∃ r, (Instr.findKey kt (kval q) es).run P w = .ok r w /\ (match mfind q l 0 with
  | some (j, p) => ∃ v, r = some (j, v) /\ R p v
  | none => r = none) := by
 cases ks with
 | i k =>
  obtain ⟨n, rfl⟩ := kfit_i hq
  obtain ⟨r, h1, h2⟩ := findNow_i (n := n) 0 hE
  refine ⟨r, ?_, h2⟩
  have hu : P.underlying kt = some (.int k) := hK
  simp [Instr.findKey, run_underlying hu, kval, h1]
 | s ks =>
  obtain ⟨c, rfl, hf⟩ := kfit_s hq
  obtain ⟨⟨f, hu⟩, h3⟩ := hK
  obtain ⟨h4, h5⟩ := h3 c hf
  cases es with
  | nil => cases l with
   | nil => exact ⟨none, by simp [Instr.findKey, run_underlying hu, kval, Instr.findNow], rfl⟩
   | cons q l => exact hE.elim
  | cons e es =>
   obtain ⟨r, h1, h2⟩ := findAsk_s (P := P) hf h5 w 0 hE
   refine ⟨r, ?_, h2⟩
   have hn : Instr.findNow (.struct f) (kval (.agg c)) (e :: es) 0 = none := by simp [Instr.findNow, Instr.sameNow]
   simp only [Instr.findKey, Sem.run_bind, run_underlying hu, hn]
   exact h1
theorem checkKey_run {kt : TypeId} {ks : KS} (hK : KeyOK P kt ks) {q : PV} (hq : kfit ks q = true) (b : Bool) (w : World) : (Instr.checkKey b 10000 kt (kval q)).run P w = .ok () w := by
 cases ks with
 | i k =>
  obtain ⟨n, rfl⟩ := kfit_i hq
  have hu : P.underlying kt = some (.int k) := hK
  show (Instr.checkKey b (9999 + 1) kt _).run P w = _
  rw [Instr.checkKey]
  simp only [Sem.run_bind, run_underlying hu, kval]
  rfl
 | s ks =>
  obtain ⟨c, rfl, hf⟩ := kfit_s hq
  exact (hK.2 c hf).1 b w
theorem checkKey_int {kt : TypeId} {k : IntKind} (hu : P.underlying kt = some (.int k)) (b : Bool) (n : Nat) (v : Value) (w : World) : (Instr.checkKey b (n + 1) kt v).run P w = .ok () w := by
 rw [Instr.checkKey]
 simp only [Sem.run_bind, run_underlying hu]
 rfl
theorem checkKey_ints {kt : TypeId} {f : Array Field} (hu : P.underlying kt = some (.struct f)) {xs : Array Value} {fs : List (Nat × TypeId)} (hf : f.toList.map (fun f => (f.offset, f.type)) = fs) (hall : ∀ g ∈ fs, (∃ k, P.underlying g.2 = some (.int k)) /\ g.1 < xs.size) (b : Bool) (w : World) :
 (Instr.checkKey b 10000 kt (.agg xs)).run P w = .ok () w := by
 show (Instr.checkKey b (9999 + 1) kt (.agg xs)).run P w = .ok () w
 rw [Instr.checkKey]
 simp only [Sem.run_bind, run_underlying hu, Result.andThen_ok]
 rw [<- Array.forIn_toList]
 generalize f.toList = L at hf
 subst hf
 induction L with
 | nil => simp
 | cons g L ih =>
  obtain ⟨⟨k, hk⟩, hlt⟩ := hall (g.offset, g.type) (by simp)
  have p1 : (part g.type xs g.offset).run P w = .ok xs[g.offset] w := by
   simp [part, isAgg, run_underlying hk, Array.getElem?_eq_getElem hlt]
  have p2 := checkKey_int (P := P) hk b 9998 xs[g.offset] w
  have hi := ih fun y hy => hall y (by simp only [List.map_cons, List.mem_cons]; exact .inr hy)
  by_cases hn : g.name = "_"
  ·simp only [List.forIn_cons, Sem.run_bind, hn, ne_eq, not_true_eq_false, if_false, Result.andThen_ok, Sem.run_pure]
   exact hi
  ·simp only [List.forIn_cons, Sem.run_bind, hn, ne_eq, not_false_eq_true, if_true, Result.andThen_ok, p1, p2, Sem.run_pure]
   exact hi
theorem kval_RP {w : World} {G : Nat -> Prop} {ks : KS} {q : PV} (hq : kfit ks q = true) {x : Value} (h : RP w G q x) : x = kval q := by
 cases ks with
 | i k =>
  obtain ⟨n, rfl⟩ := kfit_i hq
  cases h; rfl
 | s ks =>
  obtain ⟨c, rfl, hf⟩ := kfit_s hq
  cases h with
  | agg l cs u hs hone hcell hr =>
   have key : ∀ (ks : List IntKind) (c : List PV), fitK ks c = true -> ∀ (j : Nat) (p : PV), c[j]? = some p -> ∃ n k, p = PV.v (.int k n) := by
    intro ks
    induction ks with
    | nil => intro c h; cases c with
     | nil => intro j p hj; simp at hj
     | cons a c => simp [fitK] at h
    | cons k ks ih => intro c h; cases c with
     | nil => simp [fitK] at h
     | cons a c =>
      obtain ⟨n, rfl, h'⟩ := fitK_cons h
      intro j p hj
      cases j with
      | zero => simp at hj; subst hj; exact ⟨_, _, rfl⟩
      | succ j => exact ih c h' j p (by simpa using hj)
   show Value.agg cs = .agg (c.map pvv).toArray
   congr 1
   apply Array.ext'
   refine List.ext_getElem? fun j => ?_
   simp only [List.getElem?_map, Array.getElem?_toList]
   cases hj : c[j]? with
   | none =>
    simp only [Option.map_none]
    rw [Array.getElem?_eq_none]
    rw [hs]; exact List.getElem?_eq_none_iff.1 hj
   | some p =>
    obtain ⟨n, k, rfl⟩ := key ks c hf j p hj
    rw [hcell j _ hj]
    have h1 := hr j _ hj
    have e : u j = .int k n := by
     generalize u j = x at h1
     cases h1; rfl
    rw [e]; rfl
theorem fitK_ceq : ∀ {ks : List IntKind} {a b : List PV}, fitK ks a = true -> fitK ks b = true -> ceq (a.map pvv) (b.map pvv) = true -> a = b
 | [], a, b, ha, hb, _ => by
  cases a <;> simp [fitK] at ha
  cases b <;> simp [fitK] at hb
  rfl
 | k :: ks, a, b, ha, hb, h => by
  cases a with
  | nil => simp [fitK] at ha
  | cons x a => cases b with
   | nil => simp [fitK] at hb
   | cons y b =>
    obtain ⟨n, rfl, ha'⟩ := fitK_cons ha
    obtain ⟨n', rfl, hb'⟩ := fitK_cons hb
    simp only [List.map_cons, pvv, ceq, veq, Bool.and_eq_true, beq_iff_eq] at h
    obtain ⟨rfl, h'⟩ := h
    rw [fitK_ceq ha' hb' h']
theorem keq_eq {ks : KS} {p q : PV} (hp : kfit ks p = true) (hq : kfit ks q = true) (h : keq p q = true) : p = q := by
 cases ks with
 | i k =>
  obtain ⟨n, rfl⟩ := kfit_i hp
  obtain ⟨n', rfl⟩ := kfit_i hq
  simp only [keq, veq, beq_iff_eq] at h
  rw [h]
 | s ks =>
  obtain ⟨a, rfl, ha⟩ := kfit_s hp
  obtain ⟨b, rfl, hb⟩ := kfit_s hq
  rw [fitK_ceq ha hb h]
theorem mfind_at {R : PV -> Value -> Prop} {ks : KS} {q : PV} (hq : kfit ks q = true) : ∀ {es : List MapEntry} {l : List (PV × PV)} (i : Nat) {j : Nat} {p : PV}, EntR R ks es l -> mfind q l i = some (j, p) -> i <= j /\ ∃ e, es[j - i]? = some e /\ e.key = kval q
 | [], [], i, j, p, _, h => by simp [mfind] at h
 | [], _ :: _, _, _, _, h, _ => h.elim
 | _ :: _, [], _, _, _, h, _ => h.elim
 | e :: es, (q1, q2) :: l, i, j, p, hE, h => by
  obtain ⟨⟨h1, h2, h3⟩, h4⟩ := hE
  simp only [mfind] at h
  split at h
  ·rename_i hk
   simp only [Option.some.injEq, Prod.mk.injEq] at h
   obtain ⟨rfl, rfl⟩ := h
   refine ⟨Nat.le_refl _, e, by simp, ?_⟩
   rw [h2, keq_eq hq h1 hk]
  ·obtain ⟨h5, e', h6, h7⟩ := mfind_at hq (i + 1) h4 h
   refine ⟨by omega, e', ?_, h7⟩
   rw [show j - i = (j - (i + 1)) + 1 by omega, List.getElem?_cons_succ]
   exact h6
theorem EntR.set {R : PV -> Value -> Prop} {ks : KS} {q v : PV} {x : Value} (hq : kfit ks q = true) (hv : R v x) (f : MapEntry -> MapEntry) (hf : ∀ e, (f e).key = kval q /\ (f e).val = x) : ∀ {es : List MapEntry} {l : List (PV × PV)} (i : Nat), EntR R ks es l -> EntR R ks (es.modify i f) (l.set i (q, v))
 | [], [], i, _ => by cases i <;> exact trivial
 | [], _ :: _, _, h => h.elim
 | _ :: _, [], _, h => h.elim
 | e :: es, q0 :: l, 0, h => by
  refine ⟨⟨hq, (hf e).1, ?_⟩, h.2⟩
  rw [(hf e).2]; exact hv
 | e :: es, q0 :: l, i + 1, h => ⟨h.1, EntR.set hq hv f hf i h.2⟩
theorem EntR.snoc {R : PV -> Value -> Prop} {ks : KS} {q v : PV} {e0 : MapEntry} (hq : kfit ks q = true) (hk : e0.key = kval q) (hv : R v e0.val) : ∀ {es : List MapEntry} {l : List (PV × PV)}, EntR R ks es l -> EntR R ks (es ++ [e0]) (l ++ [(q, v)])
 | [], [], _ => ⟨⟨hq, hk, hv⟩, trivial⟩
 | [], _ :: _, h => h.elim
 | _ :: _, [], h => h.elim
 | e :: es, q0 :: l, h => ⟨h.1, EntR.snoc hq hk hv h.2⟩
theorem sameBits_int (n : Nat) (k : IntKind) (a : Int) : Instr.sameBits n (.int k a) (.int k a) = true := by
 cases n <;> simp [Instr.sameBits]
theorem sameBits_k {ks : KS} {q : PV} (hq : kfit ks q = true) : Instr.sameBits 10000 (kval q) (kval q) = true := by
 cases ks with
 | i k =>
  obtain ⟨n, rfl⟩ := kfit_i hq
  exact sameBits_int _ _ _
 | s ks =>
  obtain ⟨c, rfl, hf⟩ := kfit_s hq
  show Instr.sameBits (9999 + 1) (.agg (c.map pvv).toArray) (.agg (c.map pvv).toArray) = true
  simp only [Instr.sameBits, beq_self_eq_true, Bool.true_and]
  have key : ∀ (ks : List IntKind) (c : List PV), fitK ks c = true -> ((c.map pvv).zip (c.map pvv)).all (fun (x, y) => Instr.sameBits 9999 x y) = true := by
   intro ks
   induction ks with
   | nil => intro c h; cases c with
    | nil => rfl
    | cons a c => simp [fitK] at h
   | cons k ks ih => intro c h; cases c with
    | nil => rfl
    | cons a c =>
     obtain ⟨n, rfl, h'⟩ := fitK_cons h
     simp only [List.map_cons, List.zip_cons_cons, List.all_cons, pvv, sameBits_int, Bool.true_and]
     exact ih c h'
  exact key ks c hf
theorem zpv_run [Glob] {t : TypeId} {y : Ty} (h : TyOK P t y) {p : PV} (hp : zpv y = some p) (w : World) (G : Nat -> Prop) : ∃ z, (zeroValue t).run P w = .ok z w /\ RP w G p z := by
 unfold zpv at hp
 split at hp
 ·rename_i p' hz
  split at hp
  ·cases hp
  rename_i hagg
  simp only [Option.some.injEq] at hp
  subst hp
  obtain ⟨i, z, hi, hs, hz', har, hlen⟩ := zero_AR h hz w G
  obtain ⟨i2, z2, hi2, hs2, hb2, hz2, hc2, ha2, ht2⟩ := h.info
  rw [hi2] at hi
  simp only [Option.some.injEq] at hi
  subst hi
  rw [hz2] at hz'
  simp only [Option.some.injEq] at hz'
  subst hz'
  refine ⟨z2, by simp [zeroValue, typeInfo, hi2, hz2], ?_⟩
  have hcz : z2.cells = #[z2] := by
   cases z2 with
   | agg cs => exact absurd (ha2 cs rfl) hagg
   | _ => rfl
  obtain ⟨h1, h2⟩ := har
  obtain ⟨h3, u, h4, h5⟩ := h2 0 _ rfl
  rw [hcz] at h4
  simp at h4
  subst h4
  exact h5
 ·rename_i p1 p2 l hz
  simp only [Option.some.injEq] at hp
  subst hp
  obtain ⟨i, z, hi, hs, hz', har, hlen⟩ := zero_AR h hz w G
  obtain ⟨i2, z2, hi2, hs2, hb2, hz2, hc2, ha2, ht2⟩ := h.info
  rw [hi2] at hi
  simp only [Option.some.injEq] at hi
  subst hi
  rw [hz2] at hz'
  simp only [Option.some.injEq] at hz'
  subst hz'
  refine ⟨z2, by simp [zeroValue, typeInfo, hi2, hz2], ?_⟩
  obtain ⟨h1, h2⟩ := har
  cases z2 with
  | agg cs =>
   have hu : ∀ (j : Nat) (p : PV), (p1 :: p2 :: l)[j]? = some p -> p.one = true /\ cs[j]? = some (cs.getD j undef) /\ RP w G p (cs.getD j undef) := fun j p hj => by
    obtain ⟨h3, u, h4, h5⟩ := h2 j p hj
    have h4' : cs[j]? = some u := h4
    have : cs.getD j undef = u := by simp [Array.getD_eq_getD_getElem?, h4']
    rw [this]
    exact ⟨h3, h4', h5⟩
   exact RP.agg (p1 :: p2 :: l) cs (fun j => cs.getD j undef) h1 (fun j p hj => (hu j p hj).1) (fun j p hj => (hu j p hj).2.1) (fun j p hj => (hu j p hj).2.2)
  | _ => exfalso; simp [Value.cells] at h1
 ·cases hp
theorem Res_then {α β : Type} (x : α) (w : World) (f : α -> World -> Result β) : (Result.ok x w).andThen f = f x w := rfl
theorem alk_run [Glob] (hT : TabOK P T) (h : Rel w0 m0 F X N st a w m) {t : TypeId} {x k : Operand} {ok : Bool} {v : V} (hv : alk T st t (evO st x) (evO st k) ok = some v) :
 ∃ r, (Instr.lookup t (a.eval x) (a.eval k) ok).run P w = .ok r w /\ RV w (Gd F m st.b) m v r := by
 unfold alk at hv
 split at hv
 case h_2 => cases hv
 rename_i y b q hy hx hq
 split at hv
 case h_2 => cases hv
 rename_i kt e ks ks' l hkd hb
 split at hv
 case isFalse => cases hv
 rename_i hc
 obtain ⟨rfl, hf⟩ := hc
 have hk := (hT t y hy).kind
 rw [hkd] at hk
 obtain ⟨hu, hK⟩ := hk
 obtain ⟨blk, es, clock, hr, hh, hE⟩ := h.blks b _ hb
 have e1 : a.eval x = .map (some blk) := by
  have := h.evO x
  rw [hx] at this
  exact (show a.eval x = m.r b from this).trans hr
 have e2 : a.eval k = kval q := kval_RP hf ((h.evO k).toP hq)
 obtain ⟨r, h1, h2⟩ := findKey_run hK hf hE w
 have hget : (getObj blk).run P w = .ok (.map es clock) w := by simp [getObj, Sem.run, hh]
 have hset : ∀ o : Obj, (setObj blk o).run P w = .ok () { w with heap := w.heap.setIfInBounds blk o } := fun o => by simp [setObj, Sem.run, hh]
 have h3 := checkKey_run hK hf es.isEmpty w
 rw [e1, e2]
 unfold mlk at hv
 cases hm : mfind q l 0 with
 | some jp =>
  obtain ⟨j, p⟩ := jp
  rw [hm] at h2 hv
  obtain ⟨v0, rfl, h4⟩ := h2
  simp only [Option.map_some, Option.some.injEq] at hv
  subst hv
  refine ⟨if ok then .tuple #[v0, .bool true] else v0, ?_, ?_⟩
  ·simp only [Instr.lookup, Sem.run_bind, run_underlying hu, hget, Res_then, Sem.run_pure, h3, h1]
  ·cases ok
   ·exact .of0 (v := .p p) h4
   ·refine ⟨#[v0, .bool true], rfl, rfl, fun i v hi => ?_⟩
    match i, hi with
    | 0, hi => simp at hi; subst hi; exact ⟨_, rfl, h4⟩
    | 1, hi => simp at hi; subst hi; exact ⟨_, rfl, RP.v _ rfl⟩
    | i + 2, hi => simp at hi
 | none =>
  rw [hm] at h2 hv
  subst h2
  simp only [Option.map_none] at hv
  split at hv
  case h_2 => cases hv
  rename_i z hz
  split at hv
  case h_2 => cases hv
  rename_i p hp
  simp only [Option.some.injEq] at hv
  subst hv
  obtain ⟨v0, h5, h4⟩ := zpv_run (hT e z hz) hp w (Gd F m st.b)
  refine ⟨if ok then .tuple #[v0, .bool false] else v0, ?_, ?_⟩
  ·simp only [Instr.lookup, Sem.run_bind, run_underlying hu, hget, Res_then, Sem.run_pure, h3, h1, h5]
  ·cases ok
   ·exact .of0 (v := .p p) h4
   ·refine ⟨#[v0, .bool false], rfl, rfl, fun i v hi => ?_⟩
    match i, hi with
    | 0, hi => simp at hi; subst hi; exact ⟨_, rfl, h4⟩
    | 1, hi => simp at hi; subst hi; exact ⟨_, rfl, RP.v _ rfl⟩
    | i + 2, hi => simp at hi
def MapK (T : TypeId -> Option Ty) (st : St) (t : TypeId) (m k x : V) (K : St -> Prop) : Prop :=
 match T t, m, toP k, toP x with
 | some y, .row b, some q, some v => match y.kd, st.b b with
  | .map _ _ ks, some (.mp ks' l) => ks' = ks /\ kfit ks q = true /\ K ⟨st.s, fun b' => if b' = b then some (.mp ks' (mput q v l)) else st.b b'⟩
  | _, _ => False
 | _, _, _, _ => False
theorem map_run [Glob] (hT : TabOK P T) (h : Rel w0 m0 F X N st a w m) {t : TypeId} {x k v : Operand} {K : St -> Prop} (hv : MapK T st t (evO st x) (evO st k) (evO st v) K) :
 ∃ st' w', K st' /\ (Instr.mapUpdate t (a.eval x) (a.eval k) (a.eval v)).run P w = .ok () w' /\ Rel w0 m0 F X N st' a w' m := by
 unfold MapK at hv
 split at hv
 case h_2 => exact hv.elim
 rename_i y b q p hy hx hq hp
 split at hv
 case h_2 => exact hv.elim
 rename_i kt e ks ks' l hkd hb
 obtain ⟨rfl, hf, hk'⟩ := hv
 have hk := (hT t y hy).kind
 rw [hkd] at hk
 obtain ⟨hu, hK⟩ := hk
 obtain ⟨blk, es, clock, hr, hh, hE⟩ := h.blks b _ hb
 have e1 : a.eval x = .map (some blk) := by
  have := h.evO x
  rw [hx] at this
  exact (show a.eval x = m.r b from this).trans hr
 have e2 : a.eval k = kval q := kval_RP hf ((h.evO k).toP hq)
 have e3 := (h.evO v).toP hp
 generalize a.eval v = x0 at e3
 obtain ⟨r, h1, h2⟩ := findKey_run hK hf hE w
 have hget : (getObj blk).run P w = .ok (.map es clock) w := by simp [getObj, Sem.run, hh]
 have hset : ∀ o : Obj, (setObj blk o).run P w = .ok () { w with heap := w.heap.setIfInBounds blk o } := fun o => by simp [setObj, Sem.run, hh]
 have h3 := checkKey_run hK hf false w
 rw [e1, e2]
 suffices hw : ∃ es' clock', (Instr.mapUpdate t (.map (some blk)) (kval q) x0).run P w = .ok () { w with heap := w.heap.setIfInBounds blk (.map es' clock') } /\ EntR (RP w (Gd F m st.b)) ks' es'.toList (mput q p l) by
  obtain ⟨es', clock', h5, h6⟩ := hw
  refine ⟨_, _, hk', h5, ?_⟩
  have hlt := lt_of_heap hh
  have hkp : Keeps (fun k => owns m st.b b k) w { w with heap := w.heap.setIfInBounds blk (.map es' clock') } := by
   refine ⟨rfl, rfl, rfl, by simp, fun k hk hno => ?_⟩
   have hne : k ≠ blk := fun he => hno (by unfold owns; rw [hb]; simp only [hr, ownB, he])
   simp only
   rw [Array.getElem?_setIfInBounds_ne (Ne.symm hne)]
  refine h.store hb (by exact trivial) hkp ⟨blk, es', clock', hr, by simp [hlt], ?_⟩
  refine h6.mono fun pp xx hrp => hrp.move hkp.size (fun k hk hg => hkp.block k hk fun ho => hg (.inr ⟨b, ho⟩)) (fun k _ hg => hg)
 unfold mput
 cases hm : mfind q l 0 with
 | some jp =>
  obtain ⟨j, p0⟩ := jp
  rw [hm] at h2
  obtain ⟨v0, rfl, h4⟩ := h2
  obtain ⟨-, en, h7, h8⟩ := mfind_at hf 0 hE hm
  rw [Nat.sub_zero] at h7
  have h7' : es[j]? = some en := by simpa using h7
  refine ⟨es.modify j fun e => { e with key := kval q, val := x0 }, clock, ?_, ?_⟩
  ·have hkt : (Instr.keyThatStays (((es[j]?).map (·.key)).getD (kval q)) (kval q)).run P w = .ok (kval q) w := by
    rw [h7']
    simp only [Option.map_some, Option.getD_some, h8, Instr.keyThatStays, sameBits_k hf, if_true]
    rfl
   simp only [Instr.mapUpdate, Sem.run_bind, run_underlying hu, hget, Res_then, Sem.run_pure, h3, h1, hkt, hset]
  ·have := EntR.set (x := x0) hf e3 (fun e => { e with key := kval q, val := x0 }) (fun e => ⟨rfl, rfl⟩) j hE
   simpa using this
 | none =>
  rw [hm] at h2
  subst h2
  refine ⟨es.push { key := kval q, val := x0, born := clock }, clock + 1, ?_, ?_⟩
  ·simp only [Instr.mapUpdate, Sem.run_bind, run_underlying hu, hget, Res_then, Sem.run_pure, h3, h1, hset]
  ·have := EntR.snoc (e0 := { key := kval q, val := x0, born := clock }) hf rfl e3 hE
   simpa using this
end Go.Av
