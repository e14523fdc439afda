/- Texts that the proof needs: AvInd. -/
import Derived.Test.YthiccfadhllajaaP10JudgePrimary
namespace Go.Av
open Go
set_option linter.unusedSimpArgs false
set_option linter.unusedVariables false
inductive Ef where
  | put (d : Option Nat) (v : V)
  | crt (nm d : Nat) (blk : Blk) (v : V)
  | set (b : Nat) (blk : Blk)
def Ef.app : Ef -> St -> St
  | .put d v, st => ⟨putS st.s d v, st.b⟩
  | .crt nm d blk v, st => Av.crt st nm d blk v
  | .set b blk, st => ⟨st.s, fun b' => if b' = b then some blk else st.b b'⟩
def nmsC : Cap -> List Nat
  | .box b => [b]
  | .val _ => []
  | .rp _ _ => []
def nmsF : Fc -> List Nat
  | .row b => [b]
  | .p _ => []
  | .nil _ => []
def nms0 : V -> List Nat
  | .ptr b _ => [b]
  | .eptr b _ _ _ => [b]
  | .row b => [b]
  | .clo _ cs => cs.flatMap nmsC
  | .ag l => l.flatMap nmsF
  | .suf b _ _ => [b]
  | _ => []
def nms : V -> List Nat
  | .tup l => l.flatMap nms0
  | v => nms0 v
def nmsB : Blk -> List Nat
  | .box _ cells => cells.flatMap nms0
  | .row _ _ _ => []
  | .mp _ _ => []
def Ef.dst : Ef -> Option Nat
  | .put d _ => d
  | .crt _ d _ _ => some d
  | .set _ _ => none
def Ef.nm : Ef -> Option Nat
  | .crt nm _ _ _ => some nm
  | .set b _ => some b
  | .put _ _ => none
def Ef.cr : Ef -> Option Nat
  | .crt nm _ _ _ => some nm
  | _ => none
def Ef.names : Ef -> List Nat
  | .put _ v => nms v
  | .crt _ _ blk v => nms v ++ nmsB blk
  | .set _ blk => nmsB blk
def offO (o : Option Nat) (l : List Nat) : Bool := match o with
  | some x => !l.contains x
  | none => true
def difO : Option Nat -> Option Nat -> Bool
  | some x, some y => x != y
  | _, _ => true
def indE (e e' : Ef) : Bool := difO e.dst e'.dst && difO e.nm e'.nm && offO e.cr e'.names && offO e'.cr e.names
theorem offO_some {x : Nat} {l : List Nat} (h : offO (some x) l = true) : x ∉ l := by simpa [offO] using h
theorem difO_some {x y : Nat} (h : difO (some x) (some y) = true) : x ≠ y := by simpa [difO] using h
theorem difO_comm (a b : Option Nat) : difO a b = difO b a := by cases a <;> cases b <;> simp [difO, bne_comm]
theorem indE_comm [Glob] (e e' : Ef) : indE e e' = indE e' e := by
  unfold indE
  rw [difO_comm e.dst, difO_comm e.nm]
  cases difO e'.dst e.dst <;> cases difO e'.nm e.nm <;> simp [Bool.and_comm]
theorem scr0_of {b : Nat} {v : V} (h : b ∉ nms0 v) : scr0 b v = v := by
  cases v <;> simp [nms0] at h <;> simp only [scr0] <;> try (rw [if_neg (fun h0 => h h0.symm)])
  case clo f cs =>
    rw [if_neg]
    intro hc
    obtain ⟨c, hc1, hc2⟩ := List.any_eq_true.1 hc
    cases c with
    | val x => simp [Cap.isB] at hc2
    | rp e j => simp [Cap.isB] at hc2
    | box b' =>
      simp [Cap.isB] at hc2
      exact h _ hc1 (by simp [nmsC, hc2])
  case ag l =>
    rw [if_neg]
    intro hc
    obtain ⟨c, hc1, hc2⟩ := List.any_eq_true.1 hc
    cases c with
    | p x => simp [Fc.isR] at hc2
    | nil c => simp [Fc.isR] at hc2
    | row b' =>
      simp [Fc.isR] at hc2
      exact h _ hc1 (by simp [nmsF, hc2])
theorem map_id_of {α : Type} {f : α -> α} : ∀ {l : List α}, (∀ x ∈ l, f x = x) -> l.map f = l
  | [], _ => rfl
  | a :: l, h => by rw [List.map_cons, h a (by simp), map_id_of fun x hx => h x (by simp [hx])]
theorem scr_of [Glob] {b : Nat} {v : V} (h : b ∉ nms v) : scr b v = v := by
  cases v with
  | tup l =>
    simp only [nms, List.mem_flatMap, not_exists, not_and] at h
    simp only [scr]
    rw [map_id_of fun x hx => scr0_of (h x hx)]
  | p x => exact scr0_of (v := .p x) h
  | nil c => exact scr0_of (v := .nil c) h
  | full c l => exact scr0_of (v := .full c l) h
  | ptr c l => exact scr0_of (v := .ptr c l) h
  | eptr b' c i j => exact scr0_of (v := .eptr b' c i j) h
  | rptr e j => exact scr0_of (v := .rptr e j) h
  | row b' => exact scr0_of (v := .row b') h
  | clo f cs => exact scr0_of (v := .clo f cs) h
  | ag l => exact scr0_of (v := .ag l) h
  | suf b' c i => exact scr0_of (v := .suf b' c i) h
  | junk => exact scr0_of (v := .junk) h
theorem scrB_of [Glob] {b : Nat} {blk : Blk} (h : b ∉ nmsB blk) : scrB b blk = blk := by
  cases blk with
  | box e cells =>
    simp only [nmsB, List.mem_flatMap, not_exists, not_and] at h
    simp only [scrB]
    rw [map_id_of fun x hx => scr0_of (h x hx)]
  | row e c l => rfl
  | mp ks l => rfl
theorem clo_nms (b : Nat) (cs : List Cap) : cs.any (·.isB b) = true ↔ b ∈ cs.flatMap nmsC := by
  rw [List.any_eq_true, List.mem_flatMap]
  constructor
  · rintro ⟨c, h1, h2⟩
    refine ⟨c, h1, ?_⟩
    cases c <;> simp [Cap.isB] at h2 <;> simp [nmsC, h2]
  · rintro ⟨c, h1, h2⟩
    refine ⟨c, h1, ?_⟩
    cases c <;> simp [nmsC] at h2 <;> simp [Cap.isB, h2]
theorem ag_nms (b : Nat) (cs : List Fc) : cs.any (·.isR b) = true ↔ b ∈ cs.flatMap nmsF := by
  rw [List.any_eq_true, List.mem_flatMap]
  constructor
  · rintro ⟨c, h1, h2⟩
    refine ⟨c, h1, ?_⟩
    cases c <;> simp [Fc.isR] at h2 <;> simp [nmsF, h2]
  · rintro ⟨c, h1, h2⟩
    refine ⟨c, h1, ?_⟩
    cases c <;> simp [nmsF] at h2 <;> simp [Fc.isR, h2]
theorem scr0_eq [Glob] (b : Nat) (v : V) : scr0 b v = if b ∈ nms0 v then .junk else v := by
  cases v with
  | ptr b' o => simp [scr0, nms0, eq_comm]
  | eptr b' c i j => simp [scr0, nms0, eq_comm]
  | row b' => simp [scr0, nms0, eq_comm]
  | clo f cs =>
    simp only [scr0]
    by_cases h : b ∈ nms0 (.clo f cs)
    · rw [if_pos h, if_pos ((clo_nms b cs).2 h)]
    · rw [if_neg h, if_neg fun h0 => h ((clo_nms b cs).1 h0)]
  | ag l =>
    simp only [scr0]
    by_cases h : b ∈ nms0 (.ag l)
    · rw [if_pos h, if_pos ((ag_nms b l).2 h)]
    · rw [if_neg h, if_neg fun h0 => h ((ag_nms b l).1 h0)]
  | suf b' c i => simp [scr0, nms0, eq_comm]
  | _ => simp [scr0, nms0]
theorem scr0_comm [Glob] (a b : Nat) (v : V) : scr0 a (scr0 b v) = scr0 b (scr0 a v) := by
  have hj : ∀ c, scr0 c V.junk = V.junk := fun c => rfl
  by_cases ha : a ∈ nms0 v
  · have e1 : scr0 a v = .junk := by rw [scr0_eq, if_pos ha]
    by_cases hb : b ∈ nms0 v
    · have e2 : scr0 b v = .junk := by rw [scr0_eq, if_pos hb]
      rw [e1, e2, hj, hj]
    · rw [scr0_of hb, e1, hj]
  · rw [scr0_of ha]
    by_cases hb : b ∈ nms0 v
    · have e2 : scr0 b v = .junk := by rw [scr0_eq, if_pos hb]
      rw [e2, hj]
    · rw [scr0_of hb, scr0_of ha]
theorem scr_comm [Glob] (a b : Nat) (v : V) : scr a (scr b v) = scr b (scr a v) := by
  have hj : ∀ c, scr c V.junk = V.junk := fun c => rfl
  have h0 : (∀ l, v ≠ .tup l) -> ∀ c, scr c v = scr0 c v := fun hv c => by cases v <;> first | rfl | exact absurd rfl (hv _)
  have h : (∀ l, v ≠ .tup l) -> scr a (scr b v) = scr b (scr a v) := fun hv => by
    rw [h0 hv, h0 hv, scr0_eq, scr0_eq]
    split
    · split
      · rfl
      · rw [h0 hv, hj, scr0_eq, if_pos (by assumption)]
    · split
      · rw [h0 hv, hj, scr0_eq, if_pos (by assumption)]
      · rw [h0 hv, h0 hv, scr0_eq, scr0_eq, if_neg (by assumption), if_neg (by assumption)]
  cases v with
  | tup l => simp only [scr, List.map_map]; congr 1; exact List.map_congr_left fun x _ => scr0_comm a b x
  | _ => exact h (fun l => by simp)
theorem scrB_comm [Glob] (a b : Nat) (blk : Blk) : scrB a (scrB b blk) = scrB b (scrB a blk) := by
  cases blk with
  | box e cells => simp only [scrB, List.map_map]; congr 1; exact List.map_congr_left fun x _ => scr0_comm a b x
  | row e c l => rfl
  | mp ks l => rfl
theorem St.ext {a b : St} (hs : ∀ t, a.s t = b.s t) (hb : ∀ n, a.b n = b.b n) : a = b := by
  cases a; cases b; simp only [St.mk.injEq]; exact ⟨funext hs, funext hb⟩
theorem putS_at (s : Nat -> V) (d : Option Nat) (v : V) (t : Nat) : putS s d v t = if d = some t then v else s t := by
  cases d with
  | none => simp [putS]
  | some d => simp [putS, eq_comm]
theorem app_comm [Glob] {e e' : Ef} (h : indE e e' = true) (st : St) : e.app (e'.app st) = e'.app (e.app st) := by
  simp only [indE, Bool.and_eq_true] at h
  obtain ⟨⟨⟨h1, h2⟩, h3⟩, h4⟩ := h
  have key : ∀ (d : Option Nat) (v : V) (nm d' : Nat) (blk : Blk) (v' : V), difO d (some d') = true -> nm ∉ nms v -> (Ef.put d v).app ((Ef.crt nm d' blk v').app st) = (Ef.crt nm d' blk v').app ((Ef.put d v).app st) := fun d v nm d' blk v' hd hn => by
    refine St.ext (fun t => ?_) (fun n => rfl)
    simp only [Ef.app, Av.crt, putS_at]
    by_cases ht : d = some t
    · subst ht
      have : ¬ some d' = some t := fun h0 => difO_some hd (by simpa using h0.symm)
      rw [if_pos rfl, if_neg this, if_pos rfl, scr_of hn]
    · rw [if_neg ht, if_neg ht]
  have key2 : ∀ (b : Nat) (blk : Blk) (nm d' : Nat) (blk' : Blk) (v' : V), b ≠ nm -> nm ∉ nmsB blk -> (Ef.set b blk).app ((Ef.crt nm d' blk' v').app st) = (Ef.crt nm d' blk' v').app ((Ef.set b blk).app st) := fun b blk nm d' blk' v' hb hn => by
    refine St.ext (fun t => rfl) (fun n => ?_)
    simp only [Ef.app, Av.crt]
    by_cases h0 : n = b
    · subst h0
      rw [if_pos rfl, if_neg hb, if_pos rfl, Option.map_some, scrB_of hn]
    · rw [if_neg h0, if_neg h0]
  cases e with
  | put d v =>
    cases e' with
    | put d' v' =>
      refine St.ext (fun t => ?_) (fun n => rfl)
      simp only [Ef.app, putS_at]
      by_cases ht : d = some t
      · by_cases ht' : d' = some t
        · subst ht ht'; exact absurd rfl (difO_some h1)
        · rw [if_pos ht, if_neg ht', if_pos ht]
      · rw [if_neg ht, if_neg ht]
    | crt nm d' blk v' => exact key d v nm d' blk v' h1 (offO_some h4)
    | set b blk => rfl
  | crt nm d blk v =>
    cases e' with
    | put d' v' => exact (key d' v' nm d blk v (by rw [difO_comm]; exact h1) (offO_some h3)).symm
    | crt nm' d' blk' v' =>
      have hd := difO_some h1
      have hn := difO_some h2
      have h3' := offO_some h3
      have h4' := offO_some h4
      simp only [Ef.names, List.mem_append, not_or] at h3' h4'
      refine St.ext (fun t => ?_) (fun n => ?_)
      · simp only [Ef.app, Av.crt, putS_at, Option.some.injEq]
        by_cases ht : d = t
        · subst ht
          rw [if_pos rfl, if_neg (fun h0 => hd h0.symm), if_pos rfl, scr_of h4'.1]
        · by_cases ht' : d' = t
          · subst ht'; rw [if_neg ht, if_pos rfl, if_pos rfl, scr_of h3'.1]
          · rw [if_neg ht, if_neg ht', if_neg ht', if_neg ht, scr_comm]
      · simp only [Ef.app, Av.crt]
        by_cases h0 : n = nm
        · subst h0
          rw [if_pos rfl, if_neg hn, if_pos rfl, Option.map_some, scrB_of h4'.2]
        · by_cases h0' : n = nm'
          · subst h0'; rw [if_neg h0, if_pos rfl, if_pos rfl, Option.map_some, scrB_of h3'.2]
          · rw [if_neg h0, if_neg h0', if_neg h0', if_neg h0, Option.map_map, Option.map_map]
            congr 1
            exact funext fun blk => scrB_comm nm nm' blk
    | set b blk' => exact (key2 b blk' nm d blk v (fun h0 => difO_some h2 h0.symm) (offO_some h3)).symm
  | set b blk =>
    cases e' with
    | put d' v' => rfl
    | crt nm d' blk' v' => exact key2 b blk nm d' blk' v' (difO_some h2) (offO_some h4)
    | set b' blk' =>
      have hn := difO_some h2
      refine St.ext (fun t => rfl) (fun n => ?_)
      simp only [Ef.app]
      by_cases h0 : n = b
      · subst h0; rw [if_pos rfl, if_neg hn, if_pos rfl]
      · rw [if_neg h0, if_neg h0]
def isNil : Operand -> Bool
  | .const (.slice none 0 0) => true
  | _ => false
def isBin : Op -> Bool
  | .binOp _ _ _ y _ => isNil y
  | _ => false
def EffA (T : TypeId -> Option Ty) (st : St) (d : Nat) (ts : List TypeId) (as : List V) (K : Ef -> Prop) : Prop :=
  match ts, as with
  | [t, tx], [s, x] => match T t, T tx with
    | some y, some yx => match y.kd, yx.kd with
      | .slice e, .slice _ => match T e with
        | none => False
        | some z => 0 < z.size /\ z.bytes ≠ 0 /\ match srcL st z.size x with
          | none => False
          | some l => match s with
            | .nil _ => l.length * z.bytes <= 140737488355328 /\ K (.crt d d (.row e z.size l) (.row d))
            | .row b => match st.b b with
              | some (.row e' c' l0) => e' = e /\ c' = z.size /\ (l0.length + l.length) * z.bytes <= 140737488355328 /\ K (.crt b d (.row e z.size (l0 ++ l)) (.row b))
              | _ => False
            | .full c' l0 => c' = z.size /\ (l0.length + l.length) * z.bytes <= 140737488355328 /\ ((l ≠ [] \/ l0 = []) /\ K (.crt d d (.row e z.size (l0 ++ l)) (.row d)) \/ K (.put (some d) (.p (.sl z.size (l0 ++ l)))))
            | _ => False
      | _, _ => False
    | _, _ => False
  | _, _ => False
def EffS (T : TypeId -> Option Ty) (st : St) (t : TypeId) (p v : V) (K : Ef -> Prop) : Prop :=
  match T t with
  | none => False
  | some y => (fix T t v).live st = true /\ match flatV (fix T t v) with
    | none => False
    | some vs => vs.length = y.size /\ match p with
      | .ptr b off => match st.b b with
        | some (.box e cells) => match stB cells vs off with
          | some cells' => K (.set b (.box e cells'))
          | none => False
        | _ => False
      | .eptr b c i j => match st.b b with
        | some (.row e c' l) => c = c' /\ match l[i]?, toPs vs with
          | some el, some ps => j + ps.length <= el.length /\ K (.set b (.row e c' (l.set i (el.take j ++ ps ++ el.drop (j + ps.length)))))
          | _, _ => False
        | _ => False
      | _ => False
def EffB (T : TypeId -> Option Ty) (st : St) (t : TypeId) (d : Nat) (v : V) (K : Ef -> Prop) : Prop :=
  match T t with
  | none => False
  | some y => (fix T t v).live st = true /\ match flatV (fix T t v) with
    | some vs => vs.length = y.size /\ K (.crt d d (.box t (vs.map (scr0 d))) (.ptr d 0))
    | none => False
def CallR [Glob] (P : Program) (T : TypeId -> Option Ty) (st : St) (d : Option Nat) (g : FuncId) (ts : List TypeId) (as : List V) (K : Ef -> Prop) : Prop :=
  CallQ0 P T st g ts as (fun v => K (.put d v)) ∨
  (∃ us d' e c l, (argsP T ts as = some us \/ argsB T st ts as = some us /\ flatL l = true) /\ d = some d' /\ Con P g us [] (.ret (.row 2048) [.row e c l] []) /\ K (.crt d' d' (.row e c l) (.row d'))) ∨
  (∃ b us d' e0 c0 l0 e c l, (∃ v ∈ as, b ∈ nms v) /\ d = some d' /\ st.b b = some (.row e0 c0 l0) /\ argsG T [b] ts as = some us /\ ∃ x y, RetB b x y /\ Con P g us [.row e0 c0 l0] (.ret x [] [.row e c l]) /\ K (.crt b d' (.row e c l) y))
def EffK (T : TypeId -> Option Ty) (t : TypeId) (d : Nat) (K : Ef -> Prop) : Prop :=
  match T t with
  | some y => match y.kd with
    | .map _ _ ks => K (.crt d d (.mp ks []) (.row d))
    | _ => False
  | none => False
def EffM (T : TypeId -> Option Ty) (st : St) (t : TypeId) (m k x : V) (K : Ef -> Prop) : Prop :=
  match T t, m, toP k, toP x with
  | some y, .row b, some q, some v => match y.kd, st.b b with
    | .map _ _ ks, some (.mp ks' l) => ks' = ks /\ kfit ks q = true /\ K (.set b (.mp ks' (mput q v l)))
    | _, _ => False
  | _, _, _, _ => False
theorem effK_mono {T : TypeId -> Option Ty} {t : TypeId} {d : Nat} {K K' : Ef -> Prop} (h : EffK T t d K) (hk : ∀ e, K e -> K' e) : EffK T t d K' := by
  unfold EffK at h ⊢
  split at h
  · split at h
    · exact hk _ h
    · exact h.elim
  · exact h.elim
theorem effK_trace {T : TypeId -> Option Ty} {t : TypeId} {d : Nat} {K : Ef -> Prop} (h : EffK T t d K) : ∃ e, EffK T t d (fun e' => e' = e) /\ K e := by
  unfold EffK at h ⊢
  split at h
  · split at h
    · exact ⟨_, rfl, h⟩
    · exact h.elim
  · exact h.elim
theorem effM_mono {T : TypeId -> Option Ty} {st : St} {t : TypeId} {m k x : V} {K K' : Ef -> Prop} (h : EffM T st t m k x K) (hk : ∀ e, K e -> K' e) : EffM T st t m k x K' := by
  unfold EffM at h ⊢
  split at h
  · split at h
    · exact ⟨h.1, h.2.1, hk _ h.2.2⟩
    · exact h.elim
  · exact h.elim
theorem effM_trace {T : TypeId -> Option Ty} {st : St} {t : TypeId} {m k x : V} {K : Ef -> Prop} (h : EffM T st t m k x K) : ∃ e, EffM T st t m k x (fun e' => e' = e) /\ K e := by
  unfold EffM at h ⊢
  split at h
  · split at h
    · exact ⟨_, ⟨h.1, h.2.1, rfl⟩, h.2.2⟩
    · exact h.elim
  · exact h.elim
theorem effM_agr {T : TypeId -> Option Ty} {st st' : St} {t : TypeId} {m k x : V} {K : Ef -> Prop} (hb : ∀ b ∈ nms m, st.b b = st'.b b) (h : EffM T st t m k x K) : EffM T st' t m k x K := by
  unfold EffM at h ⊢
  split at h
  · rename_i y b q v hy hq hv
    have h1 := hb b (by simp [nms, nms0])
    split at h
    · rename_i kt et ks ks' l hkd hbb
      rw [h1] at hbb
      simp only [hy, hkd, hq, hv, hbb]
      exact h
    · exact h.elim
  · exact h.elim
theorem effK_step {T : TypeId -> Option Ty} {st : St} {t : TypeId} {d : Nat} {K : St -> Prop} (h : EffK T t d (fun e => K (e.app st))) : MkK T st t d K := h
theorem effM_step {T : TypeId -> Option Ty} {st : St} {t : TypeId} {m k x : V} {K : St -> Prop} (h : EffM T st t m k x (fun e => K (e.app st))) : MapK T st t m k x K := h
def EffR [Glob] (P : Program) (T : TypeId -> Option Ty) (N : Nat) (st : St) (o : Oper) (K : Ef -> Prop) : Prop :=
  match o.op with
  | .alloc t => match o.dst with
    | none => False
    | some d => dOK N d /\ match T t with
      | some y => K (.crt d d (.box t (y.zero.map (scr0 d))) (.ptr d 0))
      | none => False
  | .box t x => match o.dst with
    | none => False
    | some d => dOK N d /\ EffB T st t d (evO st x) K
  | .makeSlice _ _ _ => False
  | .store t p x => match o.dst with
    | some _ => False
    | none => EffS T st t (evO st p) (evO st x) K
  | .call { callee := .builtin .append, args := as, argTypes := ts } => match o.dst with
    | none => False
    | some d => dOK N d /\ EffA T st d ts.toList (as.toList.map (evO st)) K
  | .call { callee := .value f, args := as, argTypes := ts } => match calleeOf (evO st f) with
    | some (g, cs, mv) => dstOK N o.dst /\ CallR P T st o.dst g (catT mv cs ts.toList) (cat mv (as.toList.map (evO st)) cs) K
    | none => False
  | .panic _ => False
  | .makeMap t none => match o.dst with
    | some d => dOK N d /\ EffK T t d K
    | none => False
  | .mapUpdate t m k x => match o.dst with
    | none => EffM T st t (evO st m) (evO st k) (evO st x) K
    | some _ => False
  | .insert t m k x => match o.dst with
    | none => EffM T st t (evO st m) (evO st k) (evO st x) K
    | some _ => False
  | op => isBin op = false /\ dstOK N o.dst /\ match evV T st o with
    | some v => K (.put o.dst v)
    | none => False
theorem EffR_step [Glob] {P : Program} {T : TypeId -> Option Ty} {N : Nat} {st : St} {o : Oper} {K : St -> Prop} {Z : Value -> St -> Prop} (h : EffR P T N st o (fun e => K (e.app st))) : stepA P T N st o K Z := by
  unfold EffR at h
  unfold stepA
  split at h
  · rename_i t hop
    split at h
    · exact h.elim
    · rename_i d hd
      simp only [hop, hd]
      refine ⟨h.1, ?_⟩
      have h2 := h.2
      split at h2
      · rename_i y hy
        unfold evAlloc
        rw [hy]; exact h2
      · exact h2.elim
  · rename_i t x hop
    split at h
    · exact h.elim
    · rename_i d hd
      simp only [hop, hd]
      refine ⟨h.1, ?_⟩
      have h2 := h.2
      unfold EffB at h2
      unfold evBox
      split at h2
      · exact h2.elim
      · rename_i y hy
        obtain ⟨h3, h4⟩ := h2
        rw [hy]
        simp only [h3, if_true]
        split at h4
        · rename_i vs hvs
          simp only [hvs, h4.1, if_true]
          exact h4.2
        · exact h4.elim
  · exact h.elim
  · rename_i t p x hop
    split at h
    · exact h.elim
    · rename_i hd
      simp only [hop, hd]
      unfold EffS at h
      unfold evStore
      split at h
      · exact h.elim
      · rename_i y hy
        obtain ⟨h3, h4⟩ := h
        rw [hy]
        simp only [h3, if_true]
        split at h4
        · exact h4.elim
        · rename_i vs hvs
          obtain ⟨h5, h6⟩ := h4
          simp only [hvs, h5, if_true]
          split at h6
          · rename_i b off hp
            simp only [hp]
            split at h6
            · rename_i e cells hb
              simp only [hb]
              split at h6
              · rename_i cells' hc
                simp only [hc]; exact h6
              · exact h6.elim
            · exact h6.elim
          · rename_i b c i j hp
            simp only [hp]
            split at h6
            · rename_i e c' l hb
              obtain ⟨rfl, h7⟩ := h6
              simp only [hb, if_true]
              split at h7
              · rename_i el ps hel hps
                simp only [hel, hps, h7.1, if_true]
                exact h7.2
              · exact h7.elim
            · exact h6.elim
          · exact h6.elim
  · rename_i as ts hop
    split at h
    · exact h.elim
    · rename_i d hd
      simp only [hop, hd]
      refine ⟨h.1, ?_⟩
      have h2 := h.2
      unfold EffA at h2
      unfold AppK
      split at h2
      · rename_i t tx s x hts has
        simp only [hts, has]
        split at h2
        · rename_i y yx hy hyx
          simp only [hy, hyx]
          split at h2
          · rename_i e e' hk hk'
            simp only [hk, hk', AppE]
            split at h2
            · exact h2.elim
            · rename_i z hz
              simp only [hz]
              obtain ⟨h3, h4, h5⟩ := h2
              refine ⟨h3, h4, ?_⟩
              split at h5
              · exact h5.elim
              · rename_i l hl
                simp only [hl]
                split at h5
                · exact h5
                · rename_i b
                  split at h5
                  · rename_i e2 c2 l0 hb
                    simp only [hb]; exact h5
                  · exact h5.elim
                · obtain ⟨h6, h7, h8⟩ := h5
                  exact ⟨h6, h7, h8⟩
                · exact h5.elim
          · exact h2.elim
        · exact h2.elim
      · exact h2.elim
  · rename_i f as ts hop
    split at h
    · rename_i g cs mv hg
      simp only [hop, hg]
      refine ⟨h.1, ?_⟩
      rcases h.2 with (⟨us, v, h1, h2, h3, h4⟩ | ⟨us, v, h1, h2, h3, h4⟩) | h1 | ⟨b, us, d', e0, c0, l0, e, c, l, h1, h2⟩
      · exact .inl ⟨us, v, h1, h2, h3, h4⟩
      · exact .inr (.inr (.inl ⟨us, v, h1, h2, h3, h4⟩))
      · exact .inr (.inl h1)
      · exact .inr (.inr (.inr (.inr (.inr (.inr (.inl ⟨b, us, d', e0, c0, l0, e, c, l, h2⟩))))))
    · exact h.elim
  · exact h.elim
  · rename_i t hop
    split at h
    · rename_i d hd
      simp only [hop, hd]
      exact ⟨h.1, effK_step h.2⟩
    · exact h.elim
  · rename_i t m k x hop
    split at h
    · rename_i hd
      simp only [hop, hd]
      exact effM_step h
    · exact h.elim
  · rename_i t m k x hop
    split at h
    · rename_i hd
      simp only [hop, hd]
      exact effM_step h
    · exact h.elim
  · rename_i h1 h2 h3 h4 h5 h6 h7 h8 h9 h10
    obtain ⟨hb, hd, hv⟩ := h
    split
    · rename_i t hop; exact absurd hop (h1 _)
    · rename_i t x hop; exact absurd hop (h2 _ _)
    · rename_i hop; exact absurd hop (h3 _ _ _)
    · rename_i hop; exact absurd hop (h4 _ _ _)
    · rename_i hop; exact absurd hop (h5 _ _)
    · rename_i hop; exact absurd hop (h6 _ _ _)
    · rename_i hop; exact absurd hop (h7 _)
    · rename_i hop
      rw [hop] at hb
      simp [isBin, isNil] at hb
    · rename_i as ts hop
      unfold evV at hv
      simp only [hop, abi] at hv
    · rename_i as ts hop
      unfold evV at hv
      simp only [hop, abi] at hv
    · rename_i t x hi hop
      split
      · rename_i b hx
        unfold evV at hv
        simp only [hop, hx, rsl] at hv
        split at hv
        · rename_i v hv'
          split at hv'
          · simp at hv'
          · split at hv'
            · simp at hv'
            · simp at hv'
        · exact hv.elim
      · refine ⟨hd, ?_⟩
        split at hv
        · rename_i v hv'; rw [hv']; exact hv
        · exact hv.elim
    · rename_i hop; exact absurd hop (h8 _)
    · rename_i hop; exact absurd hop (h9 _ _ _ _)
    · rename_i hop; exact absurd hop (h10 _ _ _ _)
    · refine ⟨hd, ?_⟩
      split at hv
      · rename_i v hv'; rw [hv']; exact hv
      · exact hv.elim
theorem EffR_trace [Glob] {P : Program} {T : TypeId -> Option Ty} {N : Nat} {st : St} {o : Oper} {K : Ef -> Prop} (h : EffR P T N st o K) : ∃ e, EffR P T N st o (fun e' => e' = e) /\ K e := by
  unfold EffR at h ⊢
  split at h
  · split at h
    · exact h.elim
    · obtain ⟨h1, h2⟩ := h
      split at h2
      · exact ⟨_, ⟨h1, rfl⟩, h2⟩
      · exact h2.elim
  · split at h
    · exact h.elim
    · obtain ⟨h1, h2⟩ := h
      unfold EffB at h2 ⊢
      split at h2
      · exact h2.elim
      · obtain ⟨h3, h4⟩ := h2
        split at h4
        · exact ⟨_, ⟨h1, h3, h4.1, rfl⟩, h4.2⟩
        · exact h4.elim
  · exact h.elim
  · split at h
    · exact h.elim
    · unfold EffS at h ⊢
      split at h
      · exact h.elim
      · obtain ⟨h3, h4⟩ := h
        split at h4
        · exact h4.elim
        · obtain ⟨h5, h6⟩ := h4
          split at h6
          · split at h6
            · split at h6
              · exact ⟨_, ⟨h3, h5, rfl⟩, h6⟩
              · exact h6.elim
            · exact h6.elim
          · split at h6
            · obtain ⟨h7, h8⟩ := h6
              split at h8
              · exact ⟨_, ⟨h3, h5, h7, h8.1, rfl⟩, h8.2⟩
              · exact h8.elim
            · exact h6.elim
          · exact h6.elim
  · split at h
    · exact h.elim
    · obtain ⟨h1, h2⟩ := h
      unfold EffA at h2 ⊢
      split at h2
      · split at h2
        · split at h2
          · split at h2
            · exact h2.elim
            · obtain ⟨h3, h4, h5⟩ := h2
              split at h5
              · exact h5.elim
              · split at h5
                · exact ⟨_, ⟨h1, h3, h4, h5.1, rfl⟩, h5.2⟩
                · split at h5
                  · exact ⟨_, ⟨h1, h3, h4, h5.1, h5.2.1, h5.2.2.1, rfl⟩, h5.2.2.2⟩
                  · exact h5.elim
                · rcases h5.2.2 with h6 | h6
                  · exact ⟨_, ⟨h1, h3, h4, h5.1, h5.2.1, .inl ⟨h6.1, rfl⟩⟩, h6.2⟩
                  · exact ⟨_, ⟨h1, h3, h4, h5.1, h5.2.1, .inr rfl⟩, h6⟩
                · exact h5.elim
          · exact h2.elim
        · exact h2.elim
      · exact h2.elim
  · split at h
    · obtain ⟨h1, h2⟩ := h
      rcases h2 with (⟨us, v, h3, h4, h5, h6⟩ | ⟨us, v, h3, h4, h5, h6⟩) | ⟨us, d', e, c, l, h3, h4, h5, h6⟩ | ⟨b, us, d', e0, c0, l0, e, c, l, h3, h4, h5, h6, x, y, hxy, h7, h8⟩
      · exact ⟨_, ⟨h1, .inl (.inl ⟨us, v, h3, h4, h5, rfl⟩)⟩, h6⟩
      · exact ⟨_, ⟨h1, .inl (.inr ⟨us, v, h3, h4, h5, rfl⟩)⟩, h6⟩
      · exact ⟨_, ⟨h1, .inr (.inl ⟨us, d', e, c, l, h3, h4, h5, rfl⟩)⟩, h6⟩
      · exact ⟨_, ⟨h1, .inr (.inr ⟨b, us, d', e0, c0, l0, e, c, l, h3, h4, h5, h6, x, y, hxy, h7, rfl⟩)⟩, h8⟩
    · exact h.elim
  · exact h.elim
  · split at h
    · obtain ⟨e, h3, h4⟩ := effK_trace h.2
      exact ⟨e, ⟨h.1, h3⟩, h4⟩
    · exact h.elim
  · split at h
    · exact effM_trace h
    · exact h.elim
  · split at h
    · exact effM_trace h
    · exact h.elim
  · obtain ⟨h1, h2, h3⟩ := h
    split at h3
    · exact ⟨_, ⟨h1, h2, rfl⟩, h3⟩
    · exact h3.elim
theorem EffR_mono [Glob] {P : Program} {T : TypeId -> Option Ty} {N : Nat} {st : St} {o : Oper} {K K' : Ef -> Prop} (h : EffR P T N st o K) (hk : ∀ e, K e -> K' e) : EffR P T N st o K' := by
  obtain ⟨e, h1, h2⟩ := EffR_trace h
  clear h
  have hk' := hk e h2
  unfold EffR at h1 ⊢
  split at h1
  · split at h1
    · exact h1.elim
    · refine ⟨h1.1, ?_⟩
      have h3 := h1.2
      split at h3
      · rw [h3]; exact hk'
      · exact h3.elim
  · split at h1
    · exact h1.elim
    · refine ⟨h1.1, ?_⟩
      have h3 := h1.2
      unfold EffB at h3 ⊢
      split at h3
      · exact h3.elim
      · refine ⟨h3.1, ?_⟩
        have h4 := h3.2
        split at h4
        · exact ⟨h4.1, by rw [h4.2]; exact hk'⟩
        · exact h4.elim
  · exact h1.elim
  · split at h1
    · exact h1.elim
    · unfold EffS at h1 ⊢
      split at h1
      · exact h1.elim
      · refine ⟨h1.1, ?_⟩
        have h4 := h1.2
        split at h4
        · exact h4.elim
        · refine ⟨h4.1, ?_⟩
          have h6 := h4.2
          split at h6
          · split at h6
            · split at h6
              · rw [h6]; exact hk'
              · exact h6.elim
            · exact h6.elim
          · split at h6
            · refine ⟨h6.1, ?_⟩
              have h8 := h6.2
              split at h8
              · exact ⟨h8.1, by rw [h8.2]; exact hk'⟩
              · exact h8.elim
            · exact h6.elim
          · exact h6.elim
  · split at h1
    · exact h1.elim
    · refine ⟨h1.1, ?_⟩
      have h3 := h1.2
      unfold EffA at h3 ⊢
      split at h3
      · split at h3
        · split at h3
          · split at h3
            · exact h3.elim
            · refine ⟨h3.1, h3.2.1, ?_⟩
              have h5 := h3.2.2
              split at h5
              · exact h5.elim
              · split at h5
                · exact ⟨h5.1, by rw [h5.2]; exact hk'⟩
                · split at h5
                  · exact ⟨h5.1, h5.2.1, h5.2.2.1, by rw [h5.2.2.2]; exact hk'⟩
                  · exact h5.elim
                · refine ⟨h5.1, h5.2.1, ?_⟩
                  rcases h5.2.2 with h6 | h6
                  · exact .inl ⟨h6.1, by rw [h6.2]; exact hk'⟩
                  · exact .inr (by rw [h6]; exact hk')
                · exact h5.elim
          · exact h3.elim
        · exact h3.elim
      · exact h3.elim
  · split at h1
    · refine ⟨h1.1, ?_⟩
      rcases h1.2 with (⟨us, v, h3, h4, h5, h6⟩ | ⟨us, v, h3, h4, h5, h6⟩) | ⟨us, d', e', c, l, h3, h4, h5, h6⟩ | ⟨b, us, d', e0, c0, l0, e', c, l, h3, h4, h5, h6, x, y, hxy, h7, h8⟩
      · have h6' : Ef.put o.dst v = e := h6
        exact .inl (.inl ⟨us, v, h3, h4, h5, by show K' (Ef.put o.dst v); rw [h6']; exact hk'⟩)
      · have h6' : Ef.put o.dst v = e := h6
        exact .inl (.inr ⟨us, v, h3, h4, h5, by show K' (Ef.put o.dst v); rw [h6']; exact hk'⟩)
      · exact .inr (.inl ⟨us, d', e', c, l, h3, h4, h5, by rw [h6]; exact hk'⟩)
      · exact .inr (.inr ⟨b, us, d', e0, c0, l0, e', c, l, h3, h4, h5, h6, x, y, hxy, h7, by rw [h8]; exact hk'⟩)
    · exact h1.elim
  · exact h1.elim
  · split at h1
    · exact ⟨h1.1, effK_mono h1.2 fun e' he => he ▸ hk'⟩
    · exact h1.elim
  · split at h1
    · exact effM_mono h1 fun e' he => he ▸ hk'
    · exact h1.elim
  · split at h1
    · exact effM_mono h1 fun e' he => he ▸ hk'
    · exact h1.elim
  · refine ⟨h1.1, h1.2.1, ?_⟩
    have h3 := h1.2.2
    split at h3
    · rw [h3]; exact hk'
    · exact h3.elim
def Agr [Glob] (st st' : St) (o : Oper) : Prop := (∀ x ∈ o.op.operands, evO st x = evO st' x) /\ ∀ x ∈ o.op.operands, ∀ b ∈ nms (evO st x), st.b b = st'.b b
section
variable {T : TypeId -> Option Ty} {st st' : St}
theorem ld_agr {t : TypeId} {v : V} (h : ∀ b ∈ nms v, st.b b = st'.b b) : ld T st t v = ld T st' t v := by
  cases v <;> simp only [ld]
  · rw [h _ (by simp [nms, nms0])]
  · rw [h _ (by simp [nms, nms0])]
theorem aidx_agr {t : TypeId} {v i : V} (h : ∀ b ∈ nms v, st.b b = st'.b b) : aidx T st t v i = aidx T st' t v i := by
  unfold aidx
  cases v with
  | row b => simp only [h b (by simp [nms, nms0])]
  | p x => first | (cases x <;> rfl) | (cases x <;> first | rfl | (rename_i y; cases y <;> rfl))
  | _ => rfl
theorem alen_agr {v : V} (h : ∀ b ∈ nms v, st.b b = st'.b b) : alen st v = alen st' v := by
  unfold alen
  cases v with
  | row b => simp only [h b (by simp [nms, nms0])]
  | p x => first | (cases x <;> rfl) | (cases x <;> first | rfl | (rename_i y; cases y <;> rfl))
  | _ => rfl
theorem srcL_agr {c : Nat} {v : V} (h : ∀ b ∈ nms v, st.b b = st'.b b) : srcL st c v = srcL st' c v := by
  unfold srcL
  cases v with
  | row b => simp only [h b (by simp [nms, nms0])]
  | p x => first | (cases x <;> rfl) | (cases x <;> first | rfl | (rename_i y; cases y <;> rfl))
  | _ => rfl
theorem lendL_agr : ∀ {l : List Fc}, (∀ b ∈ l.flatMap nmsF, st.b b = st'.b b) -> lendL st l = lendL st' l
  | [], _ => rfl
  | .p p :: r, h => by simp only [lendL]; rw [lendL_agr (l := r) fun b hb => h b (by simp [nmsF] at hb ⊢; exact hb)]
  | .nil c :: r, h => by simp only [lendL]; rw [lendL_agr (l := r) fun b hb => h b (by simp [nmsF] at hb ⊢; exact hb)]
  | .row b :: r, h => by simp only [lendL]; rw [h b (by simp [nmsF]), lendL_agr (l := r) fun b' hb => h b' (by simp only [List.flatMap_cons, List.mem_append]; exact .inr hb)]
theorem argB_agr {t : TypeId} {v : V} (h : ∀ b ∈ nms v, st.b b = st'.b b) : argB T st t v = argB T st' t v := by
  unfold argB
  cases v with
  | row b => simp only [h b (by simp [nms, nms0])]
  | ag l => simp only; rw [lendL_agr fun b hb => h b (by simpa [nms, nms0] using hb)]
  | p x => first | (cases x <;> rfl) | (cases x <;> first | rfl | (rename_i y; cases y <;> rfl))
  | _ => rfl
theorem acvS_agr [Glob] {s d : TypeId} {v : V} (h : ∀ b ∈ nms v, st.b b = st'.b b) : acvS T st s d v = acvS T st' s d v := by
  unfold acvS
  simp only [srcL_agr (c := 1) h]
theorem live_agr {t : TypeId} {v : V} (h : ∀ b ∈ nms v, st.b b = st'.b b) : (fix T t v).live st = (fix T t v).live st' := by
  cases v <;> first | rfl | (simp only [fix, V.live]; rw [h _ (by simp [nms, nms0])])
theorem argsB_agr [Glob] : ∀ {ts : List TypeId} {vs : List V}, (∀ v ∈ vs, ∀ b ∈ nms v, st.b b = st'.b b) -> argsB T st ts vs = argsB T st' ts vs
  | ts, [], _ => rfl
  | ts, v :: vs, h => by simp only [argsB]; rw [argB_agr (h v (by simp)), argsB_agr fun u hu => h u (by simp [hu])]
theorem fix_nms (t : TypeId) (v : V) (b : Nat) (h : fix T t v = .row b) : b ∈ nms v := by
  cases v <;> simp only [fix] at h <;> first | (cases h; simp [nms, nms0]) | (repeat' split at h) <;> simp_all [nms, nms0]
theorem evPartsF_agr [Glob] (ty : Nat -> TypeId) : ∀ {l : List (Nat × Operand)}, (∀ p ∈ l, evO st p.2 = evO st' p.2) -> (∀ p ∈ l, ∀ b ∈ nms (evO st p.2), st.b b = st'.b b) -> evPartsF T st ty l = evPartsF T st' ty l
  | [], _, _ => rfl
  | (i, x) :: r, h, hb => by
    simp only [evPartsF]
    rw [<- h (i, x) (by simp), evPartsF_agr ty (fun p hp => h p (by simp [hp])) (fun p hp => hb p (by simp [hp]))]
    have : partF st (fix T (ty i) (evO st x)) = partF st' (fix T (ty i) (evO st x)) := by
      unfold partF
      cases hf : toP (fix T (ty i) (evO st x)) with
      | some p => rfl
      | none =>
        cases hv : fix T (ty i) (evO st x) <;> try rfl
        rename_i b
        simp only
        rw [hb (i, x) (by simp) b (fix_nms _ _ _ hv)]
    rw [this]
theorem alk_agr {t : TypeId} {v k : V} {ok : Bool} (h : ∀ b ∈ nms v, st.b b = st'.b b) : alk T st t v k ok = alk T st' t v k ok := by
  unfold alk
  cases v with
  | row b => cases T t <;> cases toP k <;> first | rfl | (simp only [h b (by simp [nms, nms0])])
  | _ => cases T t <;> cases toP k <;> rfl
theorem evV_agr [Glob] {o : Oper} (h : Agr st st' o) : evV T st o = evV T st' o := by
  obtain ⟨h, hb⟩ := h
  obtain ⟨dst, op, type, pos, after, guard⟩ := o
  cases op <;> simp only [Op.operands] at h hb <;> simp only [evV]
  case move x => rw [h x (by simp)]
  case assign x => rw [h x (by simp)]
  case pick c x y => rw [h c (by simp), h x (by simp), h y (by simp)]
  case load t p => rw [<- h p (by simp), ld_agr (hb p (by simp))]
  case binOp op t x y yt => rw [h x (by simp), h y (by simp)]
  case unOp op t x => rw [h x (by simp)]
  case convert s d x => rw [<- h x (by simp), acvS_agr (hb x (by simp))]
  case makeFunc fn first captured =>
    have ha : captured.toList.map (evO st) = captured.toList.map (evO st') := List.map_congr_left fun x hx => h x (by simp; exact .inr (by simpa using hx))
    have hf : first.toList.map (evO st) = first.toList.map (evO st') := List.map_congr_left fun x hx => h x (by simp; exact .inl (by simpa using hx))
    rw [ha, hf]
  case makeInterface t x => rw [h x (by simp)]
  case nilCheck x => rw [h x (by simp)]
  case fieldAddr s x f => rw [h x (by simp)]
  case field s x f => rw [h x (by simp)]
  case indexAddr t x i => rw [<- h x (by simp), <- h i (by simp), aidx_agr (hb x (by simp))]
  case index t x i => rw [h x (by simp), h i (by simp)]
  case extract x i => rw [h x (by simp)]
  case lookup t x k ok => rw [<- h x (by simp), <- h k (by simp), alk_agr (hb x (by simp))]
  case build t parts =>
    have he : ∀ ty, evParts T st ty parts.toList = evParts T st' ty parts.toList := fun ty => evParts_congr ty fun p hp => h p.2 (by simp; exact ⟨p.1, by simpa using hp⟩)
    have he2 : ∀ ty, evPartsF T st ty parts.toList = evPartsF T st' ty parts.toList := fun ty => evPartsF_agr ty (fun p hp => h p.2 (by simp; exact ⟨p.1, by simpa using hp⟩)) fun p hp => hb p.2 (by simp; exact ⟨p.1, by simpa using hp⟩)
    unfold bld
    simp only [he, he2]
  case buildSlice t n parts =>
    have he : ∀ ty, evParts T st ty parts.toList = evParts T st' ty parts.toList := fun ty => evParts_congr ty fun p hp => h p.2 (by simp; exact ⟨p.1, by simpa using hp⟩)
    unfold bldS
    simp only [he]
  case slice t x lo hi mx =>
    have hx := h x (by simp)
    have hlo : lo.map (evO st) = lo.map (evO st') := by
      cases lo with
      | none => rfl
      | some y => simp [h y (by simp)]
    have hhi : hi.map (evO st) = hi.map (evO st') := by
      cases hi with
      | none => rfl
      | some y => simp [h y (by simp)]
    have hmx : mx.map (evO st) = mx.map (evO st') := by
      cases mx with
      | none => rfl
      | some y => simp [h y (by simp)]
    have hbx := hb x (by simp)
    rw [<- hx, hlo, hhi, hmx]
    split
    · rename_i b hxb
      rw [hxb] at hbx
      unfold rsl
      rw [hbx b (by simp [nms, nms0])]
    · rfl
  case call c =>
    obtain ⟨callee, args, argTypes⟩ := c
    have ha : args.toList.map (evO st) = args.toList.map (evO st') := List.map_congr_left fun x hx => h x (by simp [Call.operands]; exact .inr (by simpa using hx))
    have hbb : ∀ v ∈ args.toList.map (evO st), ∀ b ∈ nms v, st.b b = st'.b b := fun v hv => by
      obtain ⟨x, hx, rfl⟩ := List.mem_map.1 hv
      exact hb x (by simp [Call.operands]; exact .inr (by simpa using hx))
    cases callee <;> try rfl
    rename_i b
    simp only
    rw [<- ha]
    unfold abi
    cases b <;> try rfl
    simp only
    split
    · rename_i t x hts hax
      have := alen_agr (hbb x (by rw [hax]; simp))
      cases x with
      | p q => cases q <;> first | rfl | (simp only [this])
      | _ => first | rfl | (simp only [this])
    · rfl
end
theorem EffR_agr [Glob] {P : Program} {T : TypeId -> Option Ty} {N : Nat} {st st' : St} {o : Oper} {K : Ef -> Prop} (h : Agr st st' o) (he : EffR P T N st o K) : EffR P T N st' o K := by
  have hv := evV_agr (T := T) h
  obtain ⟨ho, hb⟩ := h
  unfold EffR at he ⊢
  split at he
  · exact he
  · rename_i t x hop
    have e1 := ho x (by rw [hop]; simp [Op.operands])
    have e2 := hb x (by rw [hop]; simp [Op.operands])
    split at he
    · exact he
    · refine ⟨he.1, ?_⟩
      have h2 := he.2
      unfold EffB at h2 ⊢
      rw [<- e1]
      cases hT : T t with
      | none => rw [hT] at h2; exact h2
      | some y =>
        rw [hT] at h2
        exact ⟨by rw [<- live_agr (t := t) e2]; exact h2.1, h2.2⟩
  · exact he
  · rename_i t p x hop
    have e1 := ho x (by rw [hop]; simp [Op.operands])
    have e2 := hb x (by rw [hop]; simp [Op.operands])
    have e3 := ho p (by rw [hop]; simp [Op.operands])
    have e4 := hb p (by rw [hop]; simp [Op.operands])
    split at he
    · exact he
    · unfold EffS at he ⊢
      rw [<- e1, <- e3]
      cases hT : T t with
      | none => rw [hT] at he; exact he
      | some y =>
        rw [hT] at he
        refine ⟨by rw [<- live_agr (t := t) e2]; exact he.1, ?_⟩
        have h4 := he.2
        split at h4
        · exact h4.elim
        · refine ⟨h4.1, ?_⟩
          have h6 := h4.2
          cases hp : evO st p <;> rw [hp] at h6 e4 <;> simp only at h6 ⊢ <;> first | exact h6.elim | skip
          · rw [<- e4 _ (by simp [nms, nms0])]; exact h6
          · rw [<- e4 _ (by simp [nms, nms0])]; exact h6
  · rename_i as ts hop
    have ha : as.toList.map (evO st) = as.toList.map (evO st') := List.map_congr_left fun x hx => ho x (by rw [hop]; simp [Op.operands, Call.operands]; simpa using hx)
    have hbb : ∀ v ∈ as.toList.map (evO st), ∀ b ∈ nms v, st.b b = st'.b b := fun v hv => by
      obtain ⟨x, hx, rfl⟩ := List.mem_map.1 hv
      exact hb x (by rw [hop]; simp [Op.operands, Call.operands]; simpa using hx)
    split at he
    · exact he
    · refine ⟨he.1, ?_⟩
      have h2 := he.2
      unfold EffA at h2 ⊢
      rw [<- ha]
      split at h2
      · rename_i t tx s x hts has
        have es := hbb s (by rw [has]; simp)
        have ex := hbb x (by rw [has]; simp)
        split at h2
        · rename_i y yx hy hyx
          split at h2
          · rename_i e e' hk hk'
            split at h2
            · exact h2
            · rename_i z hz
              refine ⟨h2.1, h2.2.1, ?_⟩
              have h5 := h2.2.2
              rw [<- srcL_agr ex]
              split at h5
              · exact h5
              · rename_i l hl
                cases s <;> simp only at h5 ⊢ <;> first | exact h5 | skip
                rw [<- es _ (by simp [nms, nms0])]; exact h5
          · exact h2
        · exact h2
      · exact h2
  · rename_i f as ts hop
    have ef := ho f (by rw [hop]; simp [Op.operands, Call.operands])
    have ha : as.toList.map (evO st) = as.toList.map (evO st') := List.map_congr_left fun x hx => ho x (by rw [hop]; simp [Op.operands, Call.operands]; exact .inr (by simpa using hx))
    have hbb : ∀ v ∈ as.toList.map (evO st), ∀ b ∈ nms v, st.b b = st'.b b := fun v hv => by
      obtain ⟨x, hx, rfl⟩ := List.mem_map.1 hv
      exact hb x (by rw [hop]; simp [Op.operands, Call.operands]; exact .inr (by simpa using hx))
    have hfb := hb f (by rw [hop]; simp [Op.operands, Call.operands])
    rw [<- ef, <- ha]
    split at he
    · rename_i g cs mv hg
      refine ⟨he.1, ?_⟩
      have hcs : ∀ v ∈ cs, ∀ b ∈ nms v, b ∈ nms (evO st f) := by
        intro v hv b hbv
        unfold calleeOf at hg
        split at hg
        · simp only [Option.some.injEq, Prod.mk.injEq] at hg
          rw [<- hg.2.1] at hv; simp at hv
        · rename_i g' cs' hf
          simp only [Option.some.injEq, Prod.mk.injEq] at hg
          obtain ⟨-, rfl, -⟩ := hg
          obtain ⟨c, hc, rfl⟩ := List.mem_map.1 hv
          rw [hf]
          cases c with
          | box b' => simp [capV, nms, nms0] at hbv; simp [nms, nms0, List.mem_flatMap]; exact ⟨_, hc, by simp [nmsC, hbv]⟩
          | val x => simp [capV, nms, nms0] at hbv
          | rp e j => simp [capV, nms, nms0] at hbv
        · simp at hg
      have e5 : argsB T st (catT mv cs ts.toList) (cat mv (as.toList.map (evO st)) cs) = argsB T st' (catT mv cs ts.toList) (cat mv (as.toList.map (evO st)) cs) := argsB_agr fun v hv => by
        rcases cat_mem hv with hv | hv
        · exact hbb v hv
        · exact fun b hb' => hfb b (hcs v hv b hb')
      have h2 := he.2
      unfold CallR CallQ0 at h2 ⊢
      rw [<- e5]
      rcases h2 with h2 | h2 | ⟨b, us, d', e0, c0, l0, e', c, l, h3, h4, h5, h6⟩
      · exact .inl h2
      · exact .inr (.inl h2)
      · refine .inr (.inr ⟨b, us, d', e0, c0, l0, e', c, l, h3, h4, ?_, h6⟩)
        rw [<- h5]
        obtain ⟨v0, hv0, hbv⟩ := h3
        rcases cat_mem hv0 with hv | hv
        · exact (hbb _ hv b hbv).symm
        · exact (hfb b (hcs _ hv b hbv)).symm
    · exact he
  · exact he
  · exact he
  · rename_i t m k x hop
    have e1 := ho m (by rw [hop]; simp [Op.operands])
    have e2 := hb m (by rw [hop]; simp [Op.operands])
    have e3 := ho k (by rw [hop]; simp [Op.operands])
    have e4 := ho x (by rw [hop]; simp [Op.operands])
    split at he
    · rw [<- e1, <- e3, <- e4]
      exact effM_agr e2 he
    · exact he
  · rename_i t m k x hop
    have e1 := ho m (by rw [hop]; simp [Op.operands])
    have e2 := hb m (by rw [hop]; simp [Op.operands])
    have e3 := ho k (by rw [hop]; simp [Op.operands])
    have e4 := ho x (by rw [hop]; simp [Op.operands])
    split at he
    · rw [<- e1, <- e3, <- e4]
      exact effM_agr e2 he
    · exact he
  · obtain ⟨h1, h2, h3⟩ := he
    refine ⟨h1, h2, ?_⟩
    rw [<- hv]; exact h3
def nj0 : V -> Bool
  | .junk => false
  | _ => true
def nj : V -> Bool
  | .tup l => l.all nj0
  | v => nj0 v
def njB : Blk -> Bool
  | .box _ cells => cells.all nj0
  | .row _ _ _ => true
  | .mp _ _ => true
theorem scr0_back [Glob] {b : Nat} {v : V} (h : nj0 (scr0 b v) = true) : scr0 b v = v := by
  rw [scr0_eq] at h ⊢
  split
  · rename_i hb; rw [if_pos hb] at h; simp [nj0] at h
  · rfl
theorem map_back [Glob] {b : Nat} : ∀ {l : List V}, (l.map (scr0 b)).all nj0 = true -> l.map (scr0 b) = l
  | [], _ => rfl
  | a :: l, h => by
    simp only [List.map_cons, List.all_cons, Bool.and_eq_true] at h
    rw [List.map_cons, scr0_back h.1, map_back h.2]
theorem scr_back [Glob] {b : Nat} {v : V} (h : nj (scr b v) = true) : scr b v = v := by
  have h0 : (∀ l, v ≠ .tup l) -> scr b v = scr0 b v := fun hv => by cases v <;> first | rfl | exact absurd rfl (hv _)
  have h1 : (∀ l, v ≠ .tup l) -> scr b v = v := fun hv => by
    rw [h0 hv] at h ⊢
    refine scr0_back ?_
    rw [scr0_eq] at h ⊢
    split
    · rename_i hb; rw [if_pos hb] at h; exact h
    · rename_i hb
      rw [if_neg hb] at h
      cases v <;> first | exact h | exact absurd rfl (hv _)
  cases v with
  | tup l =>
    simp only [scr, nj] at h ⊢
    rw [map_back h]
  | _ => exact h1 (fun l => by simp)
theorem scrB_back [Glob] {b : Nat} {blk : Blk} (h : njB (scrB b blk) = true) : scrB b blk = blk := by
  cases blk with
  | box e cells => simp only [scrB, njB] at h ⊢; rw [map_back h]
  | row e c l => rfl
  | mp ks l => rfl
def ftN (ops : Array Oper) (st : St) (o : Oper) : List Nat := (o.looksAt ops).flatMap fun t => nms (st.s t)
def ftB (st : St) (b : Nat) : List Nat := match st.b b with
  | some blk => nmsB blk
  | none => []
def rdO (o : Oper) : Bool := match o.op with
  | .move _ | .nilCheck _ | .fieldAddr _ _ _ => false
  | _ => true
def foot (ops : Array Oper) (st : St) (o : Oper) : List Nat := ftN ops st o ++ if rdO o then (ftN ops st o).flatMap (ftB st) else []
def clB (st : St) (b : Nat) : Bool := match st.b b with
  | some blk => njB blk
  | none => true
def cln (ops : Array Oper) (st : St) (o : Oper) : Bool := (o.looksAt ops).all (fun t => nj (st.s t)) && (!rdO o || (ftN ops st o).all (clB st))
def OpOK [Glob] (P : Program) (T : TypeId -> Option Ty) (N : Nat) (ops : Array Oper) (st : St) (o : Oper) (e : Ef) : Prop :=
  (wantedA ops st o = some true /\ EffR P T N st o (fun e' => e' = e)) \/ (wantedA ops st o = some false /\ dstOK N o.dst /\ e = .put o.dst (.tup []))
structure Good [Glob] (P : Program) (T : TypeId -> Option Ty) (N : Nat) (ops : Array Oper) (o : Oper) (e : Ef) (F : List Nat) (st : St) : Prop where
  ok : OpOK P T N ops st o e
  cln : cln ops st o = true
  foot : foot ops st o = F
section
variable {P : Program} {T : TypeId -> Option Ty} {N : Nat} {ops : Array Oper} {o : Oper} {e : Ef} {F : List Nat} {S S' : St}
theorem ftN_same (h : ∀ t ∈ o.looksAt ops, S.s t = S'.s t) : ftN ops S o = ftN ops S' o := by
  unfold ftN
  have : ∀ l : List Nat, (∀ t ∈ l, S.s t = S'.s t) -> l.flatMap (fun t => nms (S.s t)) = l.flatMap (fun t => nms (S'.s t)) := fun l => by
    induction l with
    | nil => intro _; rfl
    | cons a l ih => intro h; simp only [List.flatMap_cons]; rw [h a (by simp), ih fun t ht => h t (by simp [ht])]
  exact this _ h
theorem EffR_still [Glob] {K : Ef -> Prop} (hr : rdO o = false) (h : ∀ x ∈ o.op.operands, evO S x = evO S' x) (he : EffR P T N S o K) : EffR P T N S' o K := by
  obtain ⟨dst, op, type, pos, after, guard⟩ := o
  cases op <;> simp only [rdO, Bool.true_eq_false] at hr
  all_goals simp only [Op.operands] at h
  all_goals simp only [EffR, evV] at he ⊢
  all_goals (rw [<- h _ (by simp)]; exact he)
theorem Good.same [Glob] (h : ∀ t ∈ o.looksAt ops, S.s t = S'.s t) (hb : rdO o = true -> ∀ b ∈ ftN ops S o, S.b b = S'.b b) (hg : Good P T N ops o e F S) : Good P T N ops o e F S' := by
  have e1 := ftN_same h
  have hev : ∀ x ∈ o.op.operands, evO S x = evO S' x := fun x hx => by
    cases x with
    | tmp t => exact h t (looks_operand hx rfl)
    | _ => rfl
  have hagr : rdO o = true -> Agr S S' o := fun hrd => ⟨hev, fun x hx b hbx => by
    cases x with
    | tmp t => exact hb hrd b (List.mem_flatMap.2 ⟨t, looks_operand hx rfl, hbx⟩)
    | const c =>
      simp only [evO] at hbx
      split at hbx
      · simp [nms, nms0] at hbx
      · split at hbx <;> simp [nms, nms0] at hbx
    | global g =>
      simp only [evO] at hbx
      split at hbx <;> simp [nms, nms0] at hbx
    | func f => simp [evO, nms, nms0] at hbx⟩
  have hw : wantedA ops S o = wantedA ops S' o := by
    unfold wantedA
    split
    · rfl
    · rename_i j want hgd
      split
      · rfl
      · rename_i d hd
        rw [h d (looks_guard hgd hd)]
  refine ⟨?_, ?_, ?_⟩
  · rcases hg.ok with ⟨h1, h2⟩ | h1
    · refine .inl ⟨by rw [<- hw]; exact h1, ?_⟩
      cases hrd : rdO o with
      | true => exact EffR_agr (hagr hrd) h2
      | false => exact EffR_still hrd hev h2
    · exact .inr ⟨by rw [<- hw]; exact h1.1, h1.2⟩
  · have hc := hg.cln
    unfold Av.cln at hc ⊢
    rw [<- e1]
    cases hrd : rdO o with
    | false =>
      simp only [hrd, Bool.not_false, Bool.true_or, Bool.and_true, List.all_eq_true] at hc ⊢
      exact fun t ht => by rw [<- h t ht]; exact hc t ht
    | true =>
    simp only [hrd, Bool.not_true, Bool.false_or, Bool.and_eq_true, List.all_eq_true] at hc ⊢
    refine ⟨fun t ht => by rw [<- h t ht]; exact hc.1 t ht, fun b hb' => ?_⟩
    have := hc.2 b hb'
    unfold clB at this ⊢
    rw [<- hb hrd b hb']; exact this
  · rw [<- hg.foot]
    unfold Av.foot
    rw [<- e1]
    cases hrd : rdO o with
    | false => simp
    | true =>
    simp only [if_true]
    have hb := hb hrd
    have : ∀ l : List Nat, (∀ b ∈ l, S.b b = S'.b b) -> l.flatMap (ftB S') = l.flatMap (ftB S) := fun l => by
      induction l with
      | nil => intro _; rfl
      | cons a l ih =>
        intro h
        simp only [List.flatMap_cons]
        rw [ih fun t ht => h t (by simp [ht])]
        congr 1
        unfold ftB; rw [h a (by simp)]
    rw [this _ hb]
theorem Good_app [Glob] {e' : Ef} (hd : offO e'.dst (o.looksAt ops) = true) (hf : offO (if rdO o then e'.nm else e'.cr) F = true) : Good P T N ops o e F (e'.app S) ↔ Good P T N ops o e F S := by
  have hf1 : rdO o = true -> offO e'.nm F = true := fun h => by rwa [if_pos h] at hf
  have hf2 : offO e'.cr F = true := by
    cases e' with
    | put d v => rfl
    | set b blk => rfl
    | crt nm d blk v =>
      have : offO (some nm) F = true := by
        revert hf
        cases rdO o <;> exact fun h => h
      exact this
  constructor
  · intro hg
    have hc := hg.cln
    unfold Av.cln at hc
    simp only [Bool.and_eq_true, Bool.or_eq_true, List.all_eq_true] at hc
    have hF := hg.foot
    have hs : ∀ t ∈ o.looksAt ops, (e'.app S).s t = S.s t := fun t ht => by
      have hn := hc.1 t ht
      cases e' with
      | put d v =>
        simp only [Ef.app, putS_at]
        rw [if_neg]
        intro h0; subst h0
        exact offO_some hd ht
      | set b blk => rfl
      | crt nm d blk v =>
        simp only [Ef.app, Av.crt, putS_at] at hn ⊢
        have hne : ¬ some d = some t := fun h0 => by
          simp only [Option.some.injEq] at h0; subst h0
          exact offO_some hd ht
        rw [if_neg hne] at hn ⊢
        exact scr_back hn
    refine hg.same hs fun hrd b hb => ?_
    have hn := (hc.2.resolve_left (by simp [hrd])) b hb
    have hbF : b ∈ F := by rw [<- hF]; exact List.mem_append_left _ hb
    cases e' with
    | put d v => rfl
    | set b' blk =>
      simp only [Ef.app]
      rw [if_neg]
      intro h0; subst h0
      exact offO_some (hf1 hrd) hbF
    | crt nm d blk v =>
      have hne : ¬ b = nm := fun h0 => by subst h0; exact offO_some (hf1 hrd) hbF
      unfold clB at hn
      simp only [Ef.app, Av.crt, if_neg hne] at hn ⊢
      cases hS : S.b b with
      | none => rfl
      | some blk0 =>
        rw [hS] at hn
        simp only [Option.map_some] at hn ⊢
        rw [scrB_back hn]
  · intro hg
    have hF := hg.foot
    have hs : ∀ t ∈ o.looksAt ops, S.s t = (e'.app S).s t := fun t ht => by
      cases e' with
      | put d v =>
        simp only [Ef.app, putS_at]
        rw [if_neg]
        intro h0; subst h0
        exact offO_some hd ht
      | set b blk => rfl
      | crt nm d blk v =>
        simp only [Ef.app, Av.crt, putS_at]
        have hne : ¬ some d = some t := fun h0 => by
          simp only [Option.some.injEq] at h0; subst h0
          exact offO_some hd ht
        rw [if_neg hne, scr_of]
        intro hm
        refine offO_some hf2 ?_
        rw [<- hF]
        exact List.mem_append_left _ (List.mem_flatMap.2 ⟨t, ht, hm⟩)
    refine hg.same hs fun hrd b hb => ?_
    have hbF : b ∈ F := by rw [<- hF]; exact List.mem_append_left _ hb
    cases e' with
    | put d v => rfl
    | set b' blk =>
      simp only [Ef.app]
      rw [if_neg]
      intro h0; subst h0
      exact offO_some (hf1 hrd) hbF
    | crt nm d blk v =>
      have hne : ¬ b = nm := fun h0 => by subst h0; exact offO_some (hf1 hrd) hbF
      simp only [Ef.app, Av.crt, if_neg hne]
      cases hS : S.b b with
      | none => rfl
      | some blk0 =>
        simp only [Option.map_some]
        rw [scrB_of]
        intro hm
        refine offO_some (hf1 hrd) ?_
        rw [<- hF]
        unfold Av.foot
        rw [if_pos hrd]
        exact List.mem_append_right _ (List.mem_flatMap.2 ⟨b, hb, by unfold ftB; rw [hS]; exact hm⟩)
end
def SL (st0 : St) (es : Nat -> Ef) (L : Nat -> Bool) : Nat -> St
  | 0 => st0
  | k + 1 => if L k then (es k).app (SL st0 es L k) else SL st0 es L k
theorem SL_congr {st0 : St} {es : Nat -> Ef} {L L' : Nat -> Bool} : ∀ {k : Nat}, (∀ j, j < k -> L j = L' j) -> SL st0 es L k = SL st0 es L' k
  | 0, _ => rfl
  | k + 1, h => by
    simp only [SL]
    rw [SL_congr (k := k) fun j hj => h j (by omega), h k (by omega)]
theorem SL_add [Glob] {st0 : St} {es : Nat -> Ef} {L : Nat -> Bool} {i : Nat} (hi : L i = false) : ∀ {k : Nat}, i < k -> (∀ j, i < j -> j < k -> L j = true -> indE (es i) (es j) = true) -> SL st0 es (fun j => if j = i then true else L j) k = (es i).app (SL st0 es L k)
  | 0, h, _ => by omega
  | k + 1, h, hc => by
    by_cases hk : i = k
    · subst hk
      simp only [SL, if_true, hi, Bool.false_eq_true, if_false]
      rw [SL_congr fun j hj => by rw [if_neg (by omega)]]
    · have ih := SL_add (st0 := st0) (es := es) hi (k := k) (by omega) fun j h1 h2 h3 => hc j h1 (by omega) h3
      simp only [SL, if_neg (Ne.symm hk)]
      rw [ih]
      cases hL : L k with
      | true =>
        simp only [if_true]
        exact app_comm (by rw [indE_comm]; exact hc k (by omega) (by omega) hL) _
      | false => rfl
structure Ind [Glob] (P : Program) (T : TypeId -> Option Ty) (N : Nat) (ops : Array Oper) (st0 : St) (es : Nat -> Ef) (F : Nat -> List Nat) (A : Nat -> Nat -> Prop) : Prop where
  down : ∀ i, i < ops.size -> ∀ k ∈ eds ops i, k < i
  alt : ∀ j k, A j k -> k < j
  anc : ∀ L : Nat -> Bool, (∀ j, j < ops.size -> L j = true -> ∀ k ∈ eds ops j, L k = true) -> ∀ j k, j < ops.size -> L j = true -> A j k -> L k = true
  ind : ∀ i k, i < ops.size -> k < ops.size -> i < k -> ¬ A k i -> indE (es i) (es k) = true
  see : ∀ (i k : Nat) (o : Oper), i < ops.size -> k < ops.size -> i ≠ k -> ¬ A k i -> ¬ A i k -> ops[k]? = some o -> offO (es i).dst (o.looksAt ops) = true /\ offO (if rdO o then (es i).nm else (es i).cr) (F k) = true
  good : ∀ (i : Nat) (o : Oper), ops[i]? = some o -> ((∀ k, k < ops.size -> k ≠ i -> A i k \/ A k i) /\ OpOK P T N ops (SL st0 es (fun _ => true) i) o (es i)) \/ Good P T N ops o (es i) (F i) (SL st0 es (fun _ => true) i)
section
variable {P : Program} {T : TypeId -> Option Ty} {N : Nat} {ops : Array Oper} {st0 : St} {es : Nat -> Ef} {F : Nat -> List Nat} {A : Nat -> Nat -> Prop}
theorem Ind.hyb [Glob] (H : Ind P T N ops st0 es F A) {i : Nat} {o : Oper} (ho : ops[i]? = some o) {C D : Nat -> Bool} (hC : ∀ j, j < ops.size -> C j = true -> ∀ k ∈ eds ops j, C k = true) (hCD : ∀ k, C k = true -> D k = true)
    (hd : ∀ k, k < ops.size -> D k = true -> C k = false -> k ≠ i /\ ¬ A i k /\ ¬ A k i) : Good P T N ops o (es i) (F i) (SL st0 es D ops.size) ↔ Good P T N ops o (es i) (F i) (SL st0 es C ops.size) := by
  have hin := (Array.getElem?_eq_some_iff.1 ho).1
  have key : ∀ m, m <= ops.size -> (Good P T N ops o (es i) (F i) (SL st0 es (fun j => if j < m then D j else C j) ops.size) ↔ Good P T N ops o (es i) (F i) (SL st0 es C ops.size)) := by
    intro m
    induction m with
    | zero => intro _; rw [SL_congr (L' := C) fun j _ => by simp]
    | succ m ih =>
      intro hm
      have ih := ih (by omega)
      by_cases hDC : D m = C m
      · rw [<- ih, SL_congr (L' := fun j => if j < m then D j else C j) fun j _ => ?_]
        by_cases h1 : j < m
        · rw [if_pos h1, if_pos (by omega)]
        · by_cases h2 : j = m
          · subst h2; rw [if_pos (by omega), if_neg h1, hDC]
          · rw [if_neg h1, if_neg (by omega)]
      · have hD : D m = true := by
          cases hDm : D m with
          | true => rfl
          | false =>
            cases hCm : C m with
            | true => rw [hCD m hCm] at hDm; cases hDm
            | false => rw [hDm, hCm] at hDC; exact absurd rfl hDC
        have hCf : C m = false := by
          cases hCm : C m with
          | true => rw [hD, hCm] at hDC; exact absurd rfl hDC
          | false => rfl
        obtain ⟨h1, h2, h3⟩ := hd m (by omega) hD hCf
        have e1 : SL st0 es (fun j => if j < m + 1 then D j else C j) ops.size = (es m).app (SL st0 es (fun j => if j < m then D j else C j) ops.size) := by
          rw [<- SL_add (i := m) (by simp [hCf]) (by omega) fun j hj1 hj2 hj3 => ?_]
          · refine SL_congr fun j _ => ?_
            by_cases h4 : j = m
            · subst h4; simp [hD]
            · rw [if_neg h4]
              by_cases h5 : j < m
              · rw [if_pos h5, if_pos (by omega)]
              · rw [if_neg h5, if_neg (by omega)]
          · rw [if_neg (by omega)] at hj3
            refine H.ind m j (by omega) hj2 hj1 fun ha => ?_
            have := H.anc C hC j m hj2 hj3 ha
            rw [hCf] at this; cases this
        rw [e1, <- ih]
        obtain ⟨h4, h5⟩ := H.see m i o (by omega) hin h1 h2 h3 ho
        exact Good_app h4 h5
  have := key ops.size (Nat.le_refl _)
  rw [SL_congr (L := fun j => if j < ops.size then D j else C j) (L' := D) fun j hj => by rw [if_pos hj]] at this
  exact this
theorem Ind.tree [Glob] (H : Ind P T N ops st0 es F A) {K : St -> Prop} {Z : Value -> St -> Prop} (hK : K (SL st0 es (fun _ => true) ops.size)) :
    ∀ (h : Nat) (listed : Array Bool), listed.size = ops.size -> left (Lof listed) ops.size = h -> (∀ j, j < ops.size -> Lof listed j = true -> ∀ k ∈ eds ops j, Lof listed k = true) -> awpTree P T N ops K Z h listed (SL st0 es (Lof listed) ops.size)
  | 0, listed, hsz, hl, hcl => by
    have hall := left_zero hl
    refine ⟨?_, ?_⟩
    · cases hr : Region.ready .any ops listed with
      | nil => rfl
      | cons x xs =>
        have hx : x ∈ Region.ready .any ops listed := by rw [hr]; simp
        obtain ⟨h2, o, h3, -⟩ := mem_ready.1 hx
        have hxs := (Array.getElem?_eq_some_iff.1 h3).1
        have := hall x hxs
        unfold Lof at this
        rw [this] at h2; cases h2
    · rw [SL_congr (L' := fun _ => true) fun j hj => hall j hj]; exact hK
  | h + 1, listed, hsz, hl, hcl => by
    refine ⟨fun h0 => ?_, fun i hi hc => ?_⟩
    · -- the first that is not yet listed is ready
      have hex : ∃ j, j < ops.size /\ Lof listed j = false := by
        refine Classical.byContradiction fun hno => ?_
        have : left (Lof listed) ops.size = 0 := left_all fun k hk => by
          cases hLk : Lof listed k with
          | true => rfl
          | false => exact absurd ⟨k, hk, hLk⟩ hno
        omega
      obtain ⟨j, hj⟩ := hex
      obtain ⟨m, hm, hmin⟩ : ∃ m, (m < ops.size /\ Lof listed m = false) /\ ∀ k, k < m -> ¬ (k < ops.size /\ Lof listed k = false) := by
        clear h0 hl
        induction j using Nat.strongRecOn with
        | _ j ih =>
          by_cases hh : ∃ k, k < j /\ k < ops.size /\ Lof listed k = false
          · obtain ⟨k, hk, hk2⟩ := hh; exact ih k hk hk2
          · exact ⟨j, hj, fun k hk hk2 => hh ⟨k, hk, hk2⟩⟩
      have : m ∈ Region.ready .any ops listed := by
        refine mem_ready.2 ⟨hm.2, ops[m], by simp [hm.1], fun e he hb => ?_⟩
        have hk : e.on ∈ eds ops m := (mem_eds (o := ops[m]) (by simp [hm.1])).2 ⟨e, he, hb, rfl⟩
        have hlt := H.down m hm.1 _ hk
        have : Lof listed e.on = true := by
          cases hLk : Lof listed e.on with
          | true => rfl
          | false => exact absurd ⟨by omega, hLk⟩ (hmin e.on hlt)
        unfold Lof at this
        rw [Array.getD_eq_getD_getElem?, Array.getElem?_eq_getElem (by omega)] at this ⊢
        exact this
      rw [h0] at this; simp at this
    · obtain ⟨hLi, o, ho, hpre⟩ := mem_ready.1 (show i ∈ Region.ready .any ops listed by simpa using hc)
      have hLi' : Lof listed i = false := hLi
      rw [ho]
      simp only
      have heds : ∀ k ∈ eds ops i, Lof listed k = true := fun k hk => by
        obtain ⟨e, he, hb, rfl⟩ := (mem_eds ho).1 hk
        have := hpre e he hb
        have hlt := H.down i hi _ hk
        unfold Lof
        rw [Array.getD_eq_getD_getElem?, Array.getElem?_eq_getElem (by omega)] at this ⊢
        exact this
      have hAi : ∀ k, A i k -> Lof listed k = true := fun k hk => by
        have hlt := H.alt i k hk
        have := H.anc (fun j => if j = i then true else Lof listed j) (fun j hj hLj k' hk' => by
          by_cases hji : j = i
          · rw [hji] at hk'
            have := H.down i hi k' hk'
            rw [if_neg (by omega)]; exact heds k' hk'
          · rw [if_neg hji] at hLj
            by_cases hki : k' = i
            · rw [if_pos hki]
            · rw [if_neg hki]; exact hcl j hj hLj k' hk') i k hi (by simp) hk
        rw [if_neg (by omega)] at this; exact this
      have hAL : ∀ k, k < ops.size -> Lof listed k = true -> ¬ A k i := fun k hk hLk ha => by
        have := H.anc (Lof listed) hcl k i hk hLk ha
        rw [hLi'] at this; cases this
      let D : Nat -> Bool := fun j => decide (j < i)
      let B : Nat -> Bool := fun j => Lof listed j && decide (j < i)
      have hB : ∀ j, j < ops.size -> B j = true -> ∀ k ∈ eds ops j, B k = true := fun j hj hBj k hk => by
        simp only [B, Bool.and_eq_true, decide_eq_true_eq] at hBj ⊢
        have := H.down j hj k hk
        exact ⟨hcl j hj hBj.1 k hk, by omega⟩
      have g0 := H.good i o ho
      have e0 : SL st0 es (fun _ => true) i = SL st0 es D ops.size := by
        have : ∀ k, i <= k -> SL st0 es D k = SL st0 es (fun _ => true) i := fun k => by
          induction k with
          | zero => intro hk; rw [show i = 0 by omega]; rfl
          | succ k ih =>
            intro hk
            by_cases hik : i = k + 1
            · subst hik
              exact SL_congr fun j hj => by simp [D, hj]
            · simp only [SL]
              rw [show D k = false by simp [D]; omega]
              simp only [Bool.false_eq_true, if_false]
              exact ih (by omega)
        exact (this _ (by omega)).symm
      rw [e0] at g0
      have g2 : OpOK P T N ops (SL st0 es (Lof listed) ops.size) o (es i) := by
       rcases g0 with ⟨htot, hok⟩ | g0
       · have : SL st0 es (Lof listed) ops.size = SL st0 es D ops.size := SL_congr fun k hk => by
          by_cases hki : k = i
          · subst hki; rw [hLi']; simp [D]
          · rcases htot k hk hki with ha | ha
            · rw [hAi k ha]; have := H.alt i k ha; simp [D, this]
            · have hlt := H.alt k i ha
              have hD : D k = false := by simp [D]; omega
              rw [hD]
              cases hLk : Lof listed k with
              | false => rfl
              | true => exact absurd ha (hAL k hk hLk)
         rw [this]; exact hok
       · have g1 := (H.hyb ho (C := B) (D := D) hB (fun k hk => by simp only [B, Bool.and_eq_true] at hk; exact hk.2) (fun k hk hD hB' => by
        simp only [D, decide_eq_true_eq] at hD
        have hLk : Lof listed k = false := by
          cases hLk : Lof listed k with
          | false => rfl
          | true => simp [B, hLk, hD] at hB'
        refine ⟨by omega, fun ha => ?_, fun ha => ?_⟩
        · have := hAi k ha; rw [hLk] at this; cases this
        · have := H.alt k i ha; omega)).1 g0
         have g2 := (H.hyb ho (C := B) (D := Lof listed) hB (fun k hk => by simp only [B, Bool.and_eq_true] at hk; exact hk.1) (fun k hk hD hB' => by
        have hki : ¬ k < i := fun hlt => by simp [B, hD, hlt] at hB'
        refine ⟨fun h0 => ?_, fun ha => ?_, hAL k hk hD⟩
        · subst h0; rw [hLi'] at hD; cases hD
        · have := H.alt i k ha; omega)).2 g1
         exact g2.ok
      have hstep : (es i).app (SL st0 es (Lof listed) ops.size) = SL st0 es (Lof (listed.setIfInBounds i true)) ops.size := by
        rw [<- SL_add hLi' hi fun j hj1 hj2 hj3 => H.ind i j hi hj2 hj1 (hAL j hj2 hj3)]
        exact SL_congr fun j _ => (Lof_set hLi' j).symm
      have hnext := Ind.tree (Z := Z) H hK h (listed.setIfInBounds i true) (by simp [hsz]) (by
        have e1 : left (Lof (listed.setIfInBounds i true)) ops.size = left (fun k => if k = i then true else Lof listed k) ops.size := by
          congr 1; exact funext fun k => Lof_set hLi' k
        have e2 := left_set hLi' (n := ops.size)
        rw [if_pos hi] at e2
        omega) (fun j hj hLj k hk => by
          rw [Lof_set hLi'] at hLj ⊢
          by_cases hji : j = i
          · subst hji
            have := heds k hk
            by_cases hki : k = j
            · rw [if_pos hki]
            · rw [if_neg hki]; exact this
          · rw [if_neg hji] at hLj
            by_cases hki : k = i
            · rw [if_pos hki]
            · rw [if_neg hki]; exact hcl j hj hLj k hk)
      rw [<- hstep] at hnext
      refine ⟨[], .inl ?_⟩
      simp only [frzL]
      rcases g2 with ⟨hw, he⟩ | ⟨hw, hd, he⟩
      · rw [hw]
        refine ⟨fun _ => ?_, fun h0 => by cases h0⟩
        refine EffR_step ?_
        obtain ⟨e', he1, he2⟩ := EffR_trace he
        have : ∀ {K' : Ef -> Prop}, K' (es i) -> EffR P T N (SL st0 es (Lof listed) ops.size) o K' := fun {K'} hk => EffR_mono he fun e'' h'' => h'' ▸ hk
        exact this hnext
      · rw [hw]
        refine ⟨fun h0 => (by cases h0), fun _ => ⟨hd, ?_⟩⟩
        rw [he] at hnext
        exact hnext
end
def mask1 (T : List Nat) : List Nat -> Nat
  | [] => 0
  | m :: r => 2 ^ m ||| T.getD m 0 ||| mask1 T r
def masks (ops : Array Oper) : Nat -> List Nat
  | 0 => []
  | k + 1 => masks ops k ++ [mask1 (masks ops k) (eds ops k)]
def ancB (M : List Nat) (j k : Nat) : Bool := (M.getD j 0).testBit k
theorem masks_len (ops : Array Oper) : ∀ k, (masks ops k).length = k
  | 0 => rfl
  | k + 1 => by simp [masks, masks_len ops k]
theorem masks_get [Glob] (ops : Array Oper) : ∀ n k, k < n -> (masks ops n).getD k 0 = mask1 (masks ops k) (eds ops k)
  | 0, k, h => by omega
  | n + 1, k, h => by
    simp only [masks]
    by_cases hk : k = n
    · subst hk
      simp [List.getD_eq_getElem?_getD, masks_len]
    · rw [List.getD_eq_getElem?_getD, List.getElem?_append_left (by rw [masks_len]; omega), <- List.getD_eq_getElem?_getD]
      exact masks_get ops n k (by omega)
theorem mask1_bit (T : List Nat) (k : Nat) : ∀ l : List Nat, (mask1 T l).testBit k = true -> ∃ m ∈ l, m = k \/ (T.getD m 0).testBit k = true
  | [], h => by simp [mask1] at h
  | m :: r, h => by
    simp only [mask1, Nat.testBit_or, Bool.or_eq_true, Nat.testBit_two_pow, decide_eq_true_eq] at h
    rcases h with (h | h) | h
    · exact ⟨m, by simp, .inl h⟩
    · exact ⟨m, by simp, .inr h⟩
    · obtain ⟨m', h1, h2⟩ := mask1_bit T k r h
      exact ⟨m', by simp [h1], h2⟩
theorem ancB_spec [Glob] {ops : Array Oper} (hdown : ∀ i, i < ops.size -> ∀ k ∈ eds ops i, k < i) : ∀ (j k : Nat), j < ops.size -> ancB (masks ops ops.size) j k = true →
    k < j /\ ∀ L : Nat -> Bool, (∀ j, j < ops.size -> L j = true -> ∀ k ∈ eds ops j, L k = true) -> L j = true -> L k = true := by
  intro j
  induction j using Nat.strongRecOn with
  | _ j ih =>
    intro k hj h
    unfold ancB at h
    rw [masks_get ops _ _ hj] at h
    obtain ⟨m, hm, hmk⟩ := mask1_bit _ _ _ h
    have hmj := hdown j hj m hm
    rcases hmk with rfl | hmk
    · exact ⟨hmj, fun L hL hLj => hL j hj hLj _ hm⟩
    · have e1 : (masks ops j).getD m 0 = (masks ops ops.size).getD m 0 := by rw [masks_get ops j m hmj, masks_get ops _ m (by omega)]
      rw [e1] at hmk
      obtain ⟨h1, h2⟩ := ih m hmj k (by omega) hmk
      exact ⟨by omega, fun L hL hLj => h2 L hL (hL j hj hLj _ hm)⟩
structure Rc where
  e : Ef
  lks : List Nat
  ft : List Nat
  cl : Bool
  rd : Bool
def indR (r r' : Rc) : Bool := indE r.e r'.e && offO r.e.dst r'.lks && offO (if r'.rd then r.e.nm else r.e.cr) r'.ft && offO r'.e.dst r.lks && offO (if r.rd then r'.e.nm else r'.e.cr) r.ft
def totM (M : List Nat) (n i : Nat) : Bool := (List.range n).all fun k => k == i || (ancB M i k || ancB M k i)
def okRs (M : List Nat) (rs : List Rc) : Bool := ((List.range rs.length).all fun i => ((rs[i]?).map (·.cl)).getD true || totM M rs.length i) && (List.range rs.length).all fun k => (List.range k).all fun i => ancB M k i || match rs[i]?, rs[k]? with
  | some r, some r' => indR r r'
  | _, _ => true
theorem okRs_get {M : List Nat} {rs : List Rc} (h : okRs M rs = true) {i k : Nat} {r r' : Rc} (hik : i < k) (hi : rs[i]? = some r) (hk : rs[k]? = some r') : ancB M k i = true \/ indR r r' = true := by
  have hkl := (List.getElem?_eq_some_iff.1 hk).1
  simp only [okRs, Bool.and_eq_true, List.all_eq_true, List.mem_range] at h
  have := h.2 k hkl i hik
  rw [hi, hk] at this
  simpa using this
inductive Runs [Glob] (P : Program) (T : TypeId -> Option Ty) (N : Nat) (ops : Array Oper) : Nat -> List Rc -> St -> List Rc -> St -> Prop
  | done (rs : List Rc) (st : St) (h : rs.length = ops.size) : Runs P T N ops rs.length rs st rs st
  | step (rs : List Rc) (st : St) (o : Oper) (e : Ef) (rs' : List Rc) (st' : St) (ho : ops[rs.length]? = some o) (hok : OpOK P T N ops st o e) 
      (hr : Runs P T N ops (rs.length + 1) (rs ++ [⟨e, o.looksAt ops, foot ops st o, cln ops st o, rdO o⟩]) (e.app st) rs' st') : Runs P T N ops rs.length rs st rs' st'
def downB (ops : Array Oper) : Bool := (List.range ops.size).all fun i => (eds ops i).all (· < i)
section
variable {P : Program} {T : TypeId -> Option Ty} {N : Nat} {ops : Array Oper}
structure Told [Glob] (P : Program) (T : TypeId -> Option Ty) (N : Nat) (ops : Array Oper) (st0 : St) (rs : List Rc) : Prop where
  le : rs.length <= ops.size
  at_ : ∀ (i : Nat) (r : Rc) (o : Oper), rs[i]? = some r -> ops[i]? = some o -> (r.lks = o.looksAt ops /\ r.rd = rdO o) /\ ((r.cl = false /\ OpOK P T N ops (SL st0 (fun j => ((rs[j]?).map (·.e)).getD (.put none .junk)) (fun _ => true) i) o r.e) \/ Good P T N ops o r.e r.ft (SL st0 (fun j => ((rs[j]?).map (·.e)).getD (.put none .junk)) (fun _ => true) i))
theorem SL_es {st0 : St} {es es' : Nat -> Ef} {L : Nat -> Bool} : ∀ {k : Nat}, (∀ j, j < k -> es j = es' j) -> SL st0 es L k = SL st0 es' L k
  | 0, _ => rfl
  | k + 1, h => by simp only [SL]; rw [SL_es (k := k) fun j hj => h j (by omega), h k (by omega)]
theorem Runs.told [Glob] {st0 : St} : ∀ {n : Nat} {rs rs' : List Rc} {st st' : St}, Runs P T N ops n rs st rs' st' -> Told P T N ops st0 rs -> st = SL st0 (fun j => ((rs[j]?).map (·.e)).getD (.put none .junk)) (fun _ => true) rs.length →
    Told P T N ops st0 rs' /\ st' = SL st0 (fun j => ((rs'[j]?).map (·.e)).getD (.put none .junk)) (fun _ => true) rs'.length /\ rs'.length = ops.size := by
  intro n rs rs' st st' h
  induction h with
  | done rs st h => exact fun ht hst => ⟨ht, hst, h⟩
  | step rs st o e rs' st' ho hok hr ih =>
    intro ht hst
    have hlt := (Array.getElem?_eq_some_iff.1 ho).1
    have hes : ∀ i, i <= rs.length -> SL st0 (fun j => (((rs ++ [⟨e, o.looksAt ops, foot ops st o, cln ops st o, rdO o⟩])[j]?).map (·.e)).getD (.put none .junk)) (fun _ => true) i = SL st0 (fun j => ((rs[j]?).map (·.e)).getD (.put none .junk)) (fun _ => true) i := fun i hi =>
      SL_es fun j hj => by rw [List.getElem?_append_left (by omega)]
    refine ih ⟨by simp; omega, fun i r o' hi ho' => ?_⟩ ?_
    · by_cases hil : i < rs.length
      · rw [List.getElem?_append_left hil] at hi
        rw [hes i (by omega)]
        exact ht.at_ i r o' hi ho'
      · have hi' := (List.getElem?_eq_some_iff.1 hi).1
        have : i = rs.length := by simp at hi'; omega
        subst this
        rw [List.getElem?_append_right (Nat.le_refl _)] at hi
        simp at hi
        subst hi
        rw [ho] at ho'
        simp only [Option.some.injEq] at ho'
        subst ho'
        rw [hes _ (Nat.le_refl _), <- hst]
        refine ⟨⟨rfl, rfl⟩, ?_⟩
        cases hc : cln ops st o with
        | false => exact .inl ⟨rfl, hok⟩
        | true => exact .inr ⟨hok, hc, rfl⟩
    · simp only [List.length_append, List.length_cons, List.length_nil, SL]
      rw [hes _ (Nat.le_refl _), <- hst]
      simp
theorem Runs.tree [Glob] {st0 st' : St} {rs : List Rc} (h : Runs P T N ops 0 [] st0 rs st') (hd : downB ops = true) (hok : okRs (masks ops ops.size) rs = true) {K : St -> Prop} {Z : Value -> St -> Prop} (hK : K st') : awpTree P T N ops K Z ops.size (Array.replicate ops.size false) st0 := by
  have hdown : ∀ i, i < ops.size -> ∀ k ∈ eds ops i, k < i := fun i hi k hk => by
    simp only [downB, List.all_eq_true, List.mem_range] at hd
    simpa using hd i hi k hk
  obtain ⟨ht, hst, hlen⟩ := h.told (st0 := st0) ⟨by simp, fun i r o hi => by simp at hi⟩ rfl
  have hanc := ancB_spec hdown
  let es : Nat -> Ef := fun j => ((rs[j]?).map (·.e)).getD (.put none .junk)
  let F : Nat -> List Nat := fun j => ((rs[j]?).map (·.ft)).getD []
  have hrs : ∀ i, i < ops.size -> ∃ r, rs[i]? = some r := fun i hi => ⟨rs[i], List.getElem?_eq_getElem (by omega)⟩
  have H : Ind P T N ops st0 es F (fun j k => j < ops.size /\ ancB (masks ops ops.size) j k = true) := by
    refine ⟨hdown, fun j k h => (hanc j k h.1 h.2).1, fun L hL j k hj hLj h => (hanc j k hj h.2).2 L hL hLj, fun i k hi hk hik hno => ?_, fun i k o hi hk hne hno1 hno2 ho => ?_, fun i o ho => ?_⟩
    · obtain ⟨r, hr⟩ := hrs i hi
      obtain ⟨r', hr'⟩ := hrs k hk
      rcases okRs_get hok hik hr hr' with h1 | h1
      · exact absurd ⟨hk, h1⟩ hno
      · simp only [indR, Bool.and_eq_true] at h1
        simp only [es, hr, hr', Option.map_some, Option.getD_some]
        exact h1.1.1.1.1
    · obtain ⟨r, hr⟩ := hrs i hi
      obtain ⟨r', hr'⟩ := hrs k hk
      obtain ⟨⟨hlk, hrd⟩, -⟩ := ht.at_ k r' o hr' ho
      simp only [es, F, hr, hr', Option.map_some, Option.getD_some]
      rw [<- hlk, <- hrd]
      rcases Nat.lt_or_gt_of_ne hne with hik | hki
      · rcases okRs_get hok hik hr hr' with h1 | h1
        · exact absurd ⟨hk, h1⟩ hno1
        · simp only [indR, Bool.and_eq_true] at h1
          exact ⟨h1.1.1.1.2, h1.1.1.2⟩
      · rcases okRs_get hok hki hr' hr with h1 | h1
        · exact absurd ⟨hi, h1⟩ hno2
        · simp only [indR, Bool.and_eq_true] at h1
          exact ⟨h1.1.2, h1.2⟩
    · have hi := (Array.getElem?_eq_some_iff.1 ho).1
      obtain ⟨r, hr⟩ := hrs i hi
      have := (ht.at_ i r o hr ho).2
      simp only [es, F, hr, Option.map_some, Option.getD_some]
      rcases this with ⟨htot, hok'⟩ | hg
      · refine .inl ⟨fun k hk hki => ?_, hok'⟩
        have htot : totM (masks ops ops.size) rs.length i = true := by
          have h1 := hok
          simp only [okRs, Bool.and_eq_true, List.all_eq_true, List.mem_range] at h1
          have := h1.1 i (by omega)
          rw [hr] at this
          simpa [htot] using this
        simp only [totM, List.all_eq_true, List.mem_range] at htot
        have := htot k (by omega)
        simp only [Bool.or_eq_true, beq_iff_eq] at this
        rcases this with h1 | h1 | h1
        · exact absurd h1 hki
        · exact .inl ⟨hi, h1⟩
        · exact .inr ⟨hk, h1⟩
      · exact .inr hg
  have hL0 : ∀ k, k < ops.size -> Lof (Array.replicate ops.size false) k = false := fun k hk' => by
    unfold Lof
    rw [Array.getD_eq_getD_getElem?, Array.getElem?_replicate, if_pos hk']; rfl
  have hleft : left (Lof (Array.replicate ops.size false)) ops.size = ops.size := by
    have : ∀ k, k <= ops.size -> left (Lof (Array.replicate ops.size false)) k = k := by
      intro k
      induction k with
      | zero => intro _; rfl
      | succ k ih => intro hk'; simp only [left]; rw [ih (by omega), hL0 k (by omega)]; rfl
    exact this _ (Nat.le_refl _)
  have hK' : K (SL st0 es (fun _ => true) ops.size) := by
    rw [hst, hlen] at hK; exact hK
  have := H.tree (Z := Z) hK' ops.size (Array.replicate ops.size false) (by simp) hleft (fun j hj hLj => by rw [hL0 j hj] at hLj; cases hLj)
  have e0 : SL st0 es (Lof (Array.replicate ops.size false)) ops.size = st0 := by
    have : ∀ k, k <= ops.size -> SL st0 es (Lof (Array.replicate ops.size false)) k = st0 := by
      intro k
      induction k with
      | zero => intro _; rfl
      | succ k ih =>
        intro hk'
        simp only [SL]
        rw [hL0 k (by omega)]
        simpa using ih (by omega)
    exact this _ (Nat.le_refl _)
  rw [e0] at this
  exact this
end
end Go.Av
