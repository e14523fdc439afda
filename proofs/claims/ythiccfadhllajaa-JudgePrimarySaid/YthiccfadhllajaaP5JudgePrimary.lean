/- Texts that the proof needs: AvQuiet. -/
import Derived.Test.YthiccfadhllajaaP3JudgePrimary
import Derived.Test.YthiccfadhllajaaP4JudgePrimary
namespace Go.Av
set_option linter.unusedSimpArgs false
set_option linter.unusedVariables false
open Go
def acv (T : TypeId -> Option Ty) (s d : TypeId) (v : V) : Option V :=
 match T s, T d with
 | some ys, some yd => match v with
  | .p (.v (.int _ n)) => match yd.kd with
   | .int k' => some (.p (.v (.int k' (k'.wrap n))))
   | .str => some (.p (.v (.string (Utf8.encode n))))
   | _ => none
  | .p (.v (.string x)) => match ys.kd, yd.kd with
   | .str, .str => some (.p (.v (.string x)))
   | _, _ => none
  | _ => none
 | _, _ => none
def isScal : V -> Bool
 | .p (.v _) => true
 | _ => false
def acvS (T : TypeId -> Option Ty) (st : St) (s d : TypeId) (v : V) : Option V :=
 match T s, T d with
 | some ys, some yd => match ys.kd, yd.kd with
  | .str, .slice e => match T e, v with
   | some z, .p (.v (.string x)) => match z.kd with
    | .int .u8 => if x.size <= 9223372036854775807 then some (.p (.sl 1 (bytesL x))) else none
    | _ => none
   | _, _ => none
  | .slice e, .str => match T e with
   | some z => match z.kd with
    | .int .u8 => match isScal v, srcL st 1 v with
     | false, some l => match unL l with
      | some ns => some (.p (.v (.string (strOf ns))))
      | none => none
     | _, _ => none
    | .int .i32 => match isScal v, srcL st 1 v with
     | false, some l => match unR l with
      | some ns => some (.p (.v (.string (Go.runesBytes ns))))
      | none => none
     | _, _ => none
    | _ => none
   | none => none
  | _, _ => acv T s d v
 | _, _ => none
def amm (lt : Bool) : List V -> Option V
 | [.p (.v (.int k x)), .p (.v (.int k' y))] => if k = k' then some (.p (.v (.int k (if (if lt then y < x else y > x) then y else x)))) else none
 | _ => none
def abi (T : TypeId -> Option Ty) (st : St) (b : Builtin) (ts : List TypeId) (args : List V) : Option V :=
 match b with
 | .len => match ts, args with
  | [t], [x] => match T t with
   | none => none
   | some y => match y.kd with
    | .slice _ => match x with
     | .p (.v _) => none
     | x => (alen st x).map (fun n : Nat => .p (.v (.int .i64 (n : Int))))
    | .str => match x with
     | .p (.v (.string s)) => some (.p (.v (.int .i64 s.size)))
     | _ => none
    | .array n _ => some (.p (.v (.int .i64 n)))
    | _ => none
  | _, _ => none
 | .min => amm true args
 | .max => amm false args
 | _ => none
def capOf : V -> Option Cap
 | .ptr b o => if o = 0 then some (.box b) else none
 | .rptr e j => some (.rp e j)
 | v => match toP v with
  | some p => some (.val p)
  | none => none
def capsOf : List V -> Option (List Cap)
 | [] => some []
 | v :: l => match capOf v, capsOf l with
  | some c, some r => some (c :: r)
  | _, _ => none
def aif (T : TypeId -> Option Ty) (t : TypeId) : V -> Option V
 | .p (.v (.int k n)) => match T t with
  | some y => match y.kd with
   | .int _ => some (.p (.v (.iface t (.int k n))))
   | _ => none
  | none => none
 | _ => none
def anc : V -> Option V
 | .ptr b o => some (.ptr b o)
 | .eptr b c i j => some (.eptr b c i j)
 | .rptr e j => some (.rptr e j)
 | .clo f cs => some (.clo f cs)
 | .p (.v (.func (.func f) x y)) => some (.p (.v (.func (.func f) x y)))
 | _ => none
def evV [Glob] (T : TypeId -> Option Ty) (st : St) (o : Oper) : Option V :=
 match o.op with
 | .move x => some (fix T o.type (evO st x))
 | .assign x => some (fix T o.type (evO st x))
 | .pick c x y => match evO st c with
  | .p (.v (.bool b)) => some (if b then evO st x else evO st y)
  | _ => none
 | .load t p => ld T st t (evO st p)
 | .binOp op t x y _ => match evO st x, evO st y with
  | .p (.v x), .p (.v y) => (abin T op t x y).map (fun z => .p (.v z))
  | .p (.agg x), .p (.agg y) => (aggE T op t x y).map (fun z => .p (.v z))
  | _, _ => none
 | .unOp op _ x => match evO st x with
  | .p (.v x) => (aun op x).map (fun z => .p (.v z))
  | _ => none
 | .convert s d x => acvS T st s d (evO st x)
 | .fieldAddr s x f => afld T s f (evO st x)
 | .field s x f => afield T s f (evO st x)
 | .indexAddr t x i => aidx T st t (evO st x) (evO st i)
 | .index t x i => aindex T t (evO st x) (evO st i)
 | .extract x i => aext (evO st x) i
 | .build t parts => bld T st t parts.toList
 | .buildSlice t n parts => bldS T st t n parts.toList
 | .slice t x lo hi mx => match evO st x with
  | .row b => rsl T st t b (lo.map (evO st)) (hi.map (evO st)) (mx.map (evO st))
  | v => aslice T t v (lo.map (evO st)) (hi.map (evO st)) (mx.map (evO st))
 | .call { callee := .builtin b, args := as, argTypes := ts } => abi T st b ts.toList (as.toList.map (evO st))
 | .makeFunc fn first captured => match fn with
  | .func f => if first.size = 0 then (capsOf (captured.toList.map (evO st))).map (V.clo ⟨f, false⟩) else if captured.size = 0 then (capsOf (first.toList.map (evO st))).map (V.clo ⟨f, true⟩) else none
  | _ => none
 | .makeInterface t x => aif T t (evO st x)
 | .nilCheck x => anc (evO st x)
 | .lookup t x k ok => alk T st t (evO st x) (evO st k) ok
 | _ => none
section
variable {P : Program} {T : TypeId -> Option Ty} {w0 : World} {m0 : Nm} {F X : Nat -> Prop} {N : Nat} {st : St} {a : Act} {w : World} {m : Nm}
theorem acv_run [Glob] (hT : TabOK P T) {G : Nat -> Prop} {s d : TypeId} {x v : V} (hv : acv T s d x = some v) {q : Value} (hq : RV w G m x q) : ∃ r, (convert s d q).run P w = .ok r w /\ RV w G m v r := by
 unfold acv at hv
 split at hv
 ·rename_i ys yd hs hd
  obtain ⟨ds, hds, -⟩ := (hT s ys hs).run_under
  split at hv
  ·rename_i k n
   have hq' : q = .int k n := by cases (show RP w _ _ q from hq); rfl
   subst hq'
   split at hv
   ·rename_i k' hk
    simp only [Option.some.injEq] at hv; subst hv
    have hu := (hT d yd hd).intk hk
    exact ⟨_, by simp [convert, run_underlying hds, run_underlying hu, Conv.intToInt], .of0 (v := .p _) (.v _ rfl)⟩
   ·rename_i hk
    simp only [Option.some.injEq] at hv; subst hv
    have hu := (hT d yd hd).str hk
    exact ⟨_, run_convert_int_string w s d k n (by rw [hds]; rfl) hu, .of0 (v := .p _) (.v _ rfl)⟩
   ·simp at hv
  ·rename_i x
   have hq' : q = .string x := by cases (show RP w _ _ q from hq); rfl
   subst hq'
   split at hv
   ·rename_i h1 h2
    simp only [Option.some.injEq] at hv; subst hv
    have hu1 := (hT s ys hs).str h1
    have hu2 := (hT d yd hd).str h2
    exact ⟨_, by simp [convert, run_underlying hu1, run_underlying hu2], .of0 (v := .p _) (.v _ rfl)⟩
   ·simp at hv
  ·simp at hv
 ·simp at hv
theorem srcL_string [Glob] (h : Rel w0 m0 F X N st a w m) {x : V} {l : List (List PV)} {s' : ByteArray} (hl : srcL st 1 x = some l) (hq : RV w (Gd F m st.b) m x (.string s')) (hnv : ∀ y : Value, x = .p (.v y) -> False) : False := by
 cases x with
 | p p =>
  cases p with
  | v y => exact hnv _ rfl
  | sl c l => cases (show RP w _ (.sl c l) _ from hq)
  | agg l => simp [srcL] at hl
 | nil c => cases (show Value.string s' = .slice none 0 0 from hq)
 | full c l =>
  have h1 : RP w (Gd F m st.b) (.sl c l) (.string s') := hq.1
  cases h1
 | row b =>
  simp only [srcL] at hl
  split at hl
  ·rename_i e' c' l' hb
   have h1 : Value.string s' = m.r b := hq
   rcases h.blks b _ hb with ⟨-, ⟨a', ha⟩, -⟩ | ⟨g, cap, cur, hr, -⟩
   ·rw [ha] at h1; simp at h1
   ·rw [hr] at h1; simp at h1
  ·simp at hl
 | _ => simp [srcL] at hl
theorem acvS_run [Glob] (hT : TabOK P T) (h : Rel w0 m0 F X N st a w m) {s d : TypeId} {x v : V} (hv : acvS T st s d x = some v) {q : Value} (hq : RV w (Gd F m st.b) m x q) :
 ∃ r w', (convert s d q).run P w = .ok r w' /\ Keeps (fun _ => False) w w' /\ RV w' (Gd F m st.b) m v r := by
 unfold acvS at hv
 split at hv
 ·rename_i ys yd hys hyd
  split at hv
  ·rename_i e hks hkd
   split at hv
   ·rename_i z s' hz
    split at hv
    ·rename_i hkz
     split at hv
     ·rename_i hsz
      simp only [Option.some.injEq] at hv; subst hv
      have := RV.scal hq
      subst this
      have hrun := Go.Lib.run_convert_string_bytes (P := P) w s d e s' ((hT s ys hys).str hks) ((hT d yd hyd).slice hkd) ((hT e z hz).intk hkz)
      refine ⟨_, _, hrun, ⟨rfl, rfl, rfl, by rw [Go.Lib.bytesWorld_size]; omega, fun k hk _ => Go.Lib.bytesWorld_at_old w e s' k hk⟩, ?_⟩
      have hb1 := grownCap_ge w s'.size 0 e
      have hb2 := grownCap_le_maxLen w s'.size 0 e (by unfold maxLen; exact hsz)
      have hlt := h.gd_lt'
      refine RV.of0 (v := .p _) ?_
      have := RP.sl (w := Go.Lib.bytesWorld w e s') (G := Gd F m st.b) 1 (bytesL s') w.heap.size 0 (grownCap w s'.size 0 e) (fun i _ => .int .u8 (s'.data.toList.getD i 0).toNat) (by rw [bytesL_len]; exact hb1) hb2
       (fun _ => ⟨by rw [Go.Lib.bytesWorld_size]; omega, fun hg => by have := hlt _ hg; omega⟩) (fun i el hi => ?_) (fun i el j p hi hj => ?_) (fun i el j p hi hj => ?_) (fun i el j p hi hj => ?_)
      ·rw [bytesL_len] at this; exact this
      ·simp only [bytesL, List.getElem?_map, Option.map_eq_some_iff] at hi
       obtain ⟨b, -, rfl⟩ := hi; rfl
      all_goals
       simp only [bytesL, List.getElem?_map, Option.map_eq_some_iff] at hi
       obtain ⟨b, hb, rfl⟩ := hi
       have hj0 : j = 0 := by
        have := (List.getElem?_eq_some_iff.1 hj).1; simpa using this
       subst hj0
       simp at hj; subst hj
      ·rfl
      ·have hil := (List.getElem?_eq_some_iff.1 hb).1
       have := Go.Lib.bytesWorld_cell w e s' i (by simpa using hil)
       simpa using this
      ·simp only [List.getD_eq_getElem?_getD, hb, Option.getD_some]
       exact .v _ rfl
     ·simp at hv
    ·simp at hv
   ·simp at hv
  ·rename_i e hks hkd
   split at hv
   ·rename_i z hz
    split at hv
    ·rename_i hkz
     split at hv
     ·rename_i l hnv hl
      split at hv
      ·rename_i ns hns
       simp only [Option.some.injEq] at hv; subst hv
       obtain ⟨news, hsrc⟩ := srcL_run (P := P) h (by omega) hl hq
       refine ⟨_, w, bytes_run hsrc ?_ hns ((hT s ys hys).slice hks) ((hT e z hz).intk hkz) ((hT d yd hyd).str hkd), Keeps.refl _ _, .of0 (v := .p _) (.v _ rfl)⟩
       rcases hsrc.shape with ⟨b, cap, rfl⟩ | ⟨s', rfl, -⟩
       ·exact ⟨b, _, cap, rfl⟩
       ·exact (srcL_string h hl hq fun y hy => by subst hy; simp [isScal] at hnv).elim
      ·simp at hv
     ·simp at hv
    ·rename_i hkz
     split at hv
     ·rename_i l hnv hl
      split at hv
      ·rename_i ns hns
       simp only [Option.some.injEq] at hv; subst hv
       obtain ⟨news, hsrc⟩ := srcL_run (P := P) h (by omega) hl hq
       refine ⟨_, w, runes_run hsrc ?_ hns ((hT s ys hys).slice hks) ((hT e z hz).intk hkz) ((hT d yd hyd).str hkd), Keeps.refl _ _, .of0 (v := .p _) (.v _ rfl)⟩
       rcases hsrc.shape with ⟨b, cap, rfl⟩ | ⟨s', rfl, -⟩
       ·exact ⟨b, _, cap, rfl⟩
       ·exact (srcL_string h hl hq fun y hy => by subst hy; simp [isScal] at hnv).elim
      ·simp at hv
     ·simp at hv
    ·simp at hv
   ·simp at hv
  ·obtain ⟨r, h1, h2⟩ := acv_run hT hv hq
   exact ⟨r, w, h1, Keeps.refl _ _, h2⟩
 ·simp at hv
theorem amm_run [Glob] {G : Nat -> Prop} {b : Bool} {args : List V} {v : V} (hv : amm b args = some v) {qs : List Value} (hq : qs.length = args.length) (hqs : ∀ (i : Nat) (v : V), args[i]? = some v -> ∃ q, qs[i]? = some q /\ RV w G m v q) :
 ∃ r, ((if b then Builtin.min_ else Builtin.max_) #[] 0 qs.toArray).run P w = .ok r w /\ RV w G m v r := by
 unfold amm at hv
 split at hv
 ·rename_i k x k' y
  split at hv
  ·rename_i hk
   subst hk
   simp only [Option.some.injEq] at hv
   subst hv
   obtain ⟨q0, h0, r0⟩ := hqs 0 _ rfl
   obtain ⟨q1, h1, r1⟩ := hqs 1 _ rfl
   have e0 := RV.scal r0
   have e1 := RV.scal r1
   subst e0 e1
   match qs, hq with
   | [a0, a1], _ =>
    simp at h0 h1
    subst h0 h1
    cases b
    ·exact ⟨.int k (if (if false = true then y < x else y > x) then y else x), by simp [Builtin.max_, Builtin.max2], .of0 (v := .p _) (by show RP w G _ _; exact RP.v _ rfl)⟩
    ·exact ⟨.int k (if (if true = true then y < x else y > x) then y else x), by simp [Builtin.min_, Builtin.min2], .of0 (v := .p _) (by show RP w G _ _; exact RP.v _ rfl)⟩
  ·simp at hv
 ·simp at hv
theorem capsOf_run [Glob] {G : Nat -> Prop} : ∀ {vs : List V} {cs : List Cap} {xs : List Value}, capsOf vs = some cs -> xs.length = vs.length -> (∀ (i : Nat) (v : V), vs[i]? = some v -> ∃ x, xs[i]? = some x /\ RV w G m v x) →
 cs.length = vs.length /\ ∀ (i : Nat) (c : Cap), cs[i]? = some c -> ∃ y, xs[i]? = some y /\ RC w G m c y
 | [], cs, xs, h, _, _ => by simp only [capsOf, Option.some.injEq] at h; subst h; simp
 | v :: vs, cs, xs, h, hl, hx => by
  simp only [capsOf] at h
  split at h
  ·rename_i c r hc hr
   simp only [Option.some.injEq] at h
   subst h
   cases xs with
   | nil => simp at hl
   | cons x xs =>
    obtain ⟨h1, h2⟩ := capsOf_run (xs := xs) hr (by simpa using hl) (fun i v hi => by simpa using hx (i + 1) v (by simpa using hi))
    refine ⟨by simp [h1], fun i c' hi => ?_⟩
    cases i with
    | zero =>
     simp only [List.getElem?_cons_zero, Option.some.injEq] at hi
     subst hi
     obtain ⟨x', hx1, hx2⟩ := hx 0 v rfl
     simp only [List.getElem?_cons_zero, Option.some.injEq] at hx1
     subst hx1
     refine ⟨x, rfl, ?_⟩
     unfold capOf at hc
     split at hc
     ·split at hc
      ·rename_i b o ho
       simp only [Option.some.injEq] at hc
       subst hc ho
       exact hx2
      ·simp at hc
     ·simp only [Option.some.injEq] at hc
      subst hc
      exact hx2
     ·split at hc
      ·rename_i p hp
       simp only [Option.some.injEq] at hc
       subst hc
       exact hx2.toP hp
      ·simp at hc
    | succ i => simpa using h2 i c' (by simpa using hi)
  ·simp at h
theorem evV_run [Glob] (hT : TabOK P T) (h : Rel w0 m0 F X N st a w m) {o : Oper} {v : V} (hv : evV T st o = some v) :
 ∃ x w', (execOp a.eval o).run P w = .ok (.value x) w' /\ Keeps (fun _ => False) w w' /\ RV w' (Gd F m st.b) m v x := by
 have same : ∀ {s : Sem Value}, (∃ x, s.run P w = .ok x w /\ RV w (Gd F m st.b) m v x) -> execOp a.eval o = (do pure (.value (← s)) : Sem Next) →
  ∃ x w', (execOp a.eval o).run P w = .ok (.value x) w' /\ Keeps (fun _ => False) w w' /\ RV w' (Gd F m st.b) m v x := fun ⟨x, h1, h2⟩ he =>
  ⟨x, w, by rw [he]; simp [h1], Keeps.refl _ _, h2⟩
 obtain ⟨dst, op, type, pos, after, guard⟩ := o
 cases op <;> simp only [evV, reduceCtorEq] at hv
 case move x =>
  simp only [Option.some.injEq] at hv; subst hv
  exact ⟨_, w, rfl, Keeps.refl _ _, (h.evO x).fix T _⟩
 case assign x =>
  simp only [Option.some.injEq] at hv; subst hv
  exact ⟨_, w, rfl, Keeps.refl _ _, (h.evO x).fix T _⟩
 case pick c x y =>
  split at hv
  ·rename_i b hb
   simp only [Option.some.injEq] at hv; subst hv
   have hc := h.evO c
   rw [hb] at hc
   have hc' := RV.scal hc
   refine ⟨if b then a.eval x else a.eval y, w, by simp [execOp, hc', asBool], Keeps.refl _ _, ?_⟩
   cases b
   ·exact h.evO y
   ·exact h.evO x
  ·simp at hv
 case load t p => exact same (ld_run hT h hv (h.evO p)) rfl
 case binOp op t x y yt =>
  split at hv
  ·rename_i x' y' hx hy
   simp only [Option.map_eq_some_iff] at hv
   obtain ⟨z, hz, rfl⟩ := hv
   have h1 := h.evO x
   have h2 := h.evO y
   rw [hx] at h1
   rw [hy] at h2
   have e1 := RV.scal h1
   have e2 := RV.scal h2
   have hg : ∀ o1 o2, (eqGuard op t o1 o2 x' y').run P w = .ok () w := fun o1 o2 => by
    unfold abin at hz
    split at hz <;> first | (cases op <;> simp [eqGuard]; done) | simp at hz
   refine ⟨z, w, ?_, Keeps.refl _ _, .of0 (v := .p _) (.v _ ?_)⟩
   ·simp only [execOp, e1, e2]
    simp [hg, abin_run hT hz w]
   ·unfold abin at hz
    split at hz
    ·split at hz
     ·unfold ishift at hz; split at hz <;> (try (simp at hz; done)); split at hz <;> simp at hz <;> subst hz <;> rfl
     ·split at hz
      ·unfold ibin at hz
       split at hz <;> (try (simp at hz; subst hz; rfl)) <;> (try (split at hz <;> simp at hz <;> subst hz <;> rfl)) <;> (try (simp at hz; done))
      ·simp at hz
    ·unfold sbin at hz
     split at hz <;> (try (simp at hz; subst hz; rfl)) <;> (try (split at hz <;> simp at hz <;> subst hz <;> rfl)) <;> (try (simp at hz; done))
    ·split at hz
     ·split at hz
      ·split at hz <;> simp at hz <;> subst hz <;> rfl
      ·simp at hz
     ·simp at hz
    ·simp at hz
  ·rename_i x' y' hx hy
   simp only [Option.map_eq_some_iff] at hv
   obtain ⟨z, hz, rfl⟩ := hv
   have h1 := h.evO x
   have h2 := h.evO y
   rw [hx] at h1
   rw [hy] at h2
   have hr := aggE_run (P := P) hT hz (w := w) (G := Gd F m st.b) h1 h2 x y
   refine ⟨z, w, ?_, Keeps.refl _ _, .of0 (v := .p _) (.v _ ?_)⟩
   ·simp only [execOp]
    rw [Sem.run_bind, hr]
    rfl
   ·unfold aggE at hz
    split at hz
    ·simp at hz
    split at hz
    ·simp at hz
    split at hz
    ·split at hz
     ·split at hz <;> simp at hz <;> subst hz <;> rfl
     ·simp at hz
    ·simp at hz
  ·simp at hv
 case unOp op t x =>
  split at hv
  ·rename_i x' hx
   simp only [Option.map_eq_some_iff] at hv
   obtain ⟨z, hz, rfl⟩ := hv
   have h1 := h.evO x
   rw [hx] at h1
   have e1 := RV.scal h1
   refine ⟨z, w, by simp [execOp, e1, aun_run hz], Keeps.refl _ _, .of0 (v := .p _) (.v _ ?_)⟩
   unfold aun at hz
   split at hz
   ·split at hz <;> simp at hz <;> subst hz <;> rfl
   ·split at hz <;> simp at hz; subst hz; rfl
   ·simp at hz
  ·simp at hv
 case convert s d x =>
  obtain ⟨r, w', h1, h2, h3⟩ := acvS_run hT h hv (h.evO x)
  exact ⟨r, w', by simp [execOp, h1], h2, h3⟩
 case makeFunc fn first captured =>
  split at hv
  ·rename_i f
   split at hv
   ·rename_i hf
    simp only [Option.map_eq_some_iff] at hv
    obtain ⟨cs, hcs, rfl⟩ := hv
    have hf0 : first = #[] := Array.size_eq_zero_iff.1 hf
    subst hf0
    obtain ⟨h1, h2⟩ := capsOf_run (w := w) (G := Gd F m st.b) (m := m) (xs := captured.toList.map a.eval) hcs (by simp) (fun i v hi => by
     rw [List.getElem?_map] at hi ⊢
     cases hx : captured.toList[i]? with
     | none => rw [hx] at hi; simp at hi
     | some x =>
      rw [hx] at hi
      simp only [Option.map_some, Option.some.injEq] at hi ⊢
      exact ⟨_, rfl, hi ▸ h.evO x⟩)
    refine ⟨_, w, rfl, Keeps.refl _ _, .of0 (v := .clo ⟨f, false⟩ cs) ⟨captured.toList.map a.eval, ?_, by rw [h1]; simp, h2⟩⟩
    have : (captured.toList.map a.eval).toArray = captured.map a.eval := by
     apply Array.ext'
     simp
    simp only [fnv]
    rw [this]
    simp
   ·split at hv
    ·rename_i hc0
     simp only [Option.map_eq_some_iff] at hv
     obtain ⟨cs, hcs, rfl⟩ := hv
     have hc0 : captured = #[] := Array.size_eq_zero_iff.1 hc0
     subst hc0
     obtain ⟨h1, h2⟩ := capsOf_run (w := w) (G := Gd F m st.b) (m := m) (xs := first.toList.map a.eval) hcs (by simp) (fun i v hi => by
      rw [List.getElem?_map] at hi ⊢
      cases hx : first.toList[i]? with
      | none => rw [hx] at hi; simp at hi
      | some x =>
       rw [hx] at hi
       simp only [Option.map_some, Option.some.injEq] at hi ⊢
       exact ⟨_, rfl, hi ▸ h.evO x⟩)
     refine ⟨_, w, rfl, Keeps.refl _ _, .of0 (v := .clo ⟨f, true⟩ cs) ⟨first.toList.map a.eval, ?_, by rw [h1]; simp, h2⟩⟩
     have : (first.toList.map a.eval).toArray = first.map a.eval := by
      apply Array.ext'
      simp
     simp only [fnv]
     rw [this]
     simp
    ·simp at hv
  ·simp at hv
 case makeInterface t x =>
  unfold aif at hv
  split at hv
  ·rename_i k n hx
   split at hv
   ·rename_i y hy
    split at hv
    ·rename_i k' hkd
     simp only [Option.some.injEq] at hv
     subst hv
     have h1 := h.evO x
     rw [hx] at h1
     have e1 := RV.scal h1
     have kind := (hT t y hy).kind
     rw [hkd] at kind
     exact ⟨_, w, by simp [execOp, Instr.makeInterface, e1, run_underlying kind], Keeps.refl _ _, .of0 (v := .p _) (.v _ rfl)⟩
    ·simp at hv
   ·simp at hv
  ·simp at hv
 case nilCheck x =>
  have h1 := h.evO x
  unfold anc at hv
  split at hv <;> simp only [Option.some.injEq, reduceCtorEq] at hv
  all_goals
   rename_i hx
   subst hv
   rw [hx] at h1
  ·exact ⟨_, w, by simp only [execOp]; rw [show a.eval x = _ from h1]; rfl, Keeps.refl _ _, h1⟩
  ·obtain ⟨k, hk, he⟩ := (show RV0 w (Gd F m st.b) m (.eptr _ _ _ _) _ from h1)
   exact ⟨_, w, by simp only [execOp]; rw [he]; rfl, Keeps.refl _ _, by rw [<- he]; exact h1⟩
  ·obtain ⟨k, off, he, hr⟩ := (show RV0 w (Gd F m st.b) m (.rptr _ _) _ from h1)
   exact ⟨_, w, by simp only [execOp]; rw [he]; rfl, Keeps.refl _ _, by rw [<- he]; exact h1⟩
  ·obtain ⟨cs, he, hr⟩ := (show RV0 w (Gd F m st.b) m (.clo _ _) _ from h1)
   rename_i fk _
   obtain ⟨k1, k2⟩ := fk
   exact ⟨fnv ⟨k1, k2⟩ cs, w, by simp only [execOp]; rw [he]; cases k2 <;> rfl, Keeps.refl _ _, by rw [<- he]; exact h1⟩
  ·have e1 := RV.scal h1
   rw [e1] at h1
   exact ⟨_, w, by simp only [execOp]; rw [e1]; rfl, Keeps.refl _ _, h1⟩
 case fieldAddr s x f => exact same (afld_run hT hv (h.evO x)) rfl
 case field s x f => exact same (afield_run hT hv (h.evO x)) rfl
 case indexAddr t x i => exact same (aidx_run hT h hv (h.evO x) (h.evO i)) rfl
 case index t x i => exact same (aindex_run hT hv (h.evO x) (h.evO i)) rfl
 case extract x i => exact same (aext_run hv (h.evO x)) rfl
 case lookup t x k ok => exact same (alk_run hT h hv) rfl
 case build t parts => exact same (bld_run hT h hv) rfl
 case buildSlice t n parts =>
  obtain ⟨x, w', h1, h2, h3, -⟩ := bldS_run hT h hv
  exact ⟨x, w', by simp only [execOp]; rw [Sem.run_bind, h1]; rfl, h2, h3⟩
 case slice t x lo hi mx =>
  have ho : ∀ y : Option Operand, RVo w (Gd F m st.b) m (y.map (evO st)) (y.map a.eval) := fun y => by
   cases y with
   | none => trivial
   | some y => exact h.evO y
  split at hv
  ·rename_i b hb
   have hx := h.evO x
   rw [hb] at hx
   exact same (rsl_run hT h hv hx (ho lo) (ho hi) (ho mx)) rfl
  ·exact same (aslice_run hT hv (h.evO x) (ho lo) (ho hi) (ho mx)) rfl
 case call c =>
  obtain ⟨callee, args, argTypes⟩ := c
  cases callee <;> simp only [reduceCtorEq] at hv
  rename_i b
  have hargs : ∀ (i : Nat) (v : V), (args.toList.map (evO st))[i]? = some v -> ∃ q, (args.toList.map a.eval)[i]? = some q /\ RV w (Gd F m st.b) m v q := fun i v hi => by
   rw [List.getElem?_map] at hi ⊢
   cases hx : args.toList[i]? with
   | none => rw [hx] at hi; simp at hi
   | some x =>
    rw [hx] at hi
    simp only [Option.map_some, Option.some.injEq] at hi ⊢
    exact ⟨_, rfl, hi ▸ h.evO x⟩
  unfold abi at hv
  split at hv
  ·split at hv
   ·rename_i t x hts has
    split at hv
    ·simp at hv
    rename_i y hy
    obtain ⟨q, hq, hr⟩ := hargs 0 x (by rw [has]; rfl)
    have hat : argTypes[0]? = some t := by
     have := congrArg (fun l : List TypeId => l[0]?) hts
     simpa using this
    have haq : (args.map a.eval)[0]? = some q := by simpa using hq
    split at hv
    ·rename_i e hkd
     have hu := (hT t y hy).slice hkd
     have key : ∀ n, alen st x = some n -> (∀ s, q ≠ .string s) -> ∃ b c, q = .slice b n c := fun n hn hns => by
      rcases alen_run h hn hr with ⟨s, hs, -⟩ | h1
      ·exact absurd hs (hns s)
      ·exact h1
     split at hv
     ·simp at hv
     ·rename_i x' hnv
      simp only [Option.map_eq_some_iff] at hv
      obtain ⟨n, hn, rfl⟩ := hv
      obtain ⟨b, c, hb⟩ := key n hn (fun s hs => by
       subst hs
       unfold alen at hn
       split at hn
       ·exact hnv _ rfl
       ·cases (show RP w _ _ _ from hr)
       ·obtain ⟨-, b, hb⟩ := (show RP w _ _ _ /\ ∃ a, _ = _ from hr); simp at hb
       ·simp [RV, RV0] at hr
       ·rename_i b
        split at hn
        ·rename_i e' c l hb
         rcases h.blks b _ hb with ⟨-, ⟨a', h1⟩, hl0⟩ | ⟨g, cap, cur, hv, -⟩
         ·rw [<- show _ = m.r b from hr] at h1; simp at h1
         ·rw [<- show _ = m.r b from hr] at hv; simp at hv
        ·simp at hn
       ·simp at hn)
      subst hb
      refine same (s := Builtin.len_ argTypes type (args.map a.eval)) ⟨.int .i64 n, by simp [Builtin.len_, hat, haq, run_underlying hu, goInt], .of0 (v := .p _) (.v _ rfl)⟩ ?_
      simp [execOp, resolve, invoke, builtin]
    ·rename_i hkd
     have hu := (hT t y hy).str hkd
     split at hv
     ·rename_i s
      simp only [Option.some.injEq] at hv; subst hv
      have hq' := RV.scal hr
      subst hq'
      refine same (s := Builtin.len_ argTypes type (args.map a.eval)) ⟨.int .i64 s.size, by simp [Builtin.len_, hat, haq, run_underlying hu, goInt], .of0 (v := .p _) (.v _ rfl)⟩ ?_
      simp [execOp, resolve, invoke, builtin]
     ·simp at hv
    ·rename_i n e hkd
     have hu := (hT t y hy).array hkd
     simp only [Option.some.injEq] at hv; subst hv
     refine same (s := Builtin.len_ argTypes type (args.map a.eval)) ⟨.int .i64 n, by simp [Builtin.len_, hat, haq, run_underlying hu, goInt], .of0 (v := .p _) (.v _ rfl)⟩ ?_
     simp [execOp, resolve, invoke, builtin]
    ·simp at hv
   ·simp at hv
  ·obtain ⟨r, hr1, hr2⟩ := amm_run (P := P) (w := w) (m := m) (G := Gd F m st.b) hv (qs := args.toList.map a.eval) (by simp) hargs
   refine same (s := Builtin.min_ argTypes type (args.map a.eval)) ⟨r, ?_, hr2⟩ (by simp [execOp, resolve, invoke, builtin])
   simpa [Builtin.min_] using hr1
  ·obtain ⟨r, hr1, hr2⟩ := amm_run (P := P) (w := w) (m := m) (G := Gd F m st.b) hv (qs := args.toList.map a.eval) (by simp) hargs
   refine same (s := Builtin.max_ argTypes type (args.map a.eval)) ⟨r, ?_, hr2⟩ (by simp [execOp, resolve, invoke, builtin])
   simpa [Builtin.max_] using hr1
  ·simp at hv
end
end Go.Av
