/- Texts that the proof needs: AvOps. -/
import Derived.Test.YthiccfadhllajaaP0JudgePrimary
import Derived.Laws.StructEq
import Derived.Laws.Tables
import Derived.Great.FillDense
namespace Go.Av
set_option linter.unusedSimpArgs false
set_option linter.unusedVariables false
open Go Go.Great
inductive Kd where
 | sc | str | bool
 | int (k : IntKind)
 | slice (e : TypeId)
 | struct (fs : List (Nat × TypeId))
 | array (n : Nat) (e : TypeId)
 | map (k e : TypeId) (ks : KS)
inductive Sk where
 | int (k : IntKind) | str | bool
structure Ty where
 size : Nat
 bytes : Nat
 zero : List V
 kd : Kd
 eq : Option (List Sk) := none
def Kd.isAgg : Kd -> Bool
 | .struct _ | .array _ _ => true
 | _ => false
def zval : V -> Option Value
 | .p (.v x) => if scal x then some x else none
 | .nil _ => some (.slice none 0 0)
 | _ => none
def fitsS : Sk -> Value -> Prop
 | .int k, x => ∃ n, x = .int k n
 | .str, x => ∃ s, x = .string s
 | .bool, x => ∃ b, x = .bool b
def fitsL : List Sk -> List Value -> Prop
 | [], xs => xs = []
 | k :: ks, xs => ∃ x r, xs = x :: r /\ fitsS k x /\ fitsL ks r
def veq : Value -> Value -> Bool
 | .int _ a, .int _ b => a == b
 | .string a, .string b => a.toList == b.toList
 | .bool a, .bool b => a == b
 | _, _ => false
def ceq : List Value -> List Value -> Bool
 | x :: xs, y :: ys => veq x y && ceq xs ys
 | _, _ => true
def KeyOK (P : Program) (kt : TypeId) : KS -> Prop
 | .i k => P.underlying kt = some (.int k)
 | .s ks => (∃ f, P.underlying kt = some (.struct f)) /\ ∀ l, fitK ks l = true -> (∀ b w, (Instr.checkKey b 10000 kt (.agg (l.map pvv).toArray)).run P w = .ok () w) ∧
  ∀ l', fitK ks l' = true -> ∀ w, (Op.equal kt (.agg (l.map pvv).toArray) (.agg (l'.map pvv).toArray)).run P w = .ok (ceq (l.map pvv) (l'.map pvv)) w
structure TyOK (P : Program) (t : TypeId) (y : Ty) : Prop where
 zlen : y.zero.length = y.size
 info : ∃ i z, P.info? t = some i /\ i.size = y.size /\ i.bytes = y.bytes /\ i.zero = some z /\ z.cells.toList.map some = y.zero.map zval /\ (∀ cs, z = .agg cs -> y.kd.isAgg = true) /\ (∀ cs, z = .tuple cs -> False)
 kind : match y.kd with
  | .slice e => P.underlying t = some (.slice e)
  | .struct fs => ∃ f, P.underlying t = some (.struct f) /\ f.toList.map (fun f => (f.offset, f.type)) = fs
  | .array n e => P.underlying t = some (.array n e)
  | .int k => P.underlying t = some (.int k)
  | .str => P.underlying t = some .string
  | .bool => P.underlying t = some .bool
  | .sc => ∃ d, P.underlying t = some d /\ (d matches .struct _ | .array _ _) = false
  | .map k e ks => P.underlying t = some (.map k e) /\ KeyOK P k ks
 eq : ∀ ks, y.eq = some ks -> y.kd.isAgg = true /\ ∀ xs ys : List Value, fitsL ks xs -> fitsL ks ys -> ∀ w,
  (Op.equal t (.agg xs.toArray) (.agg ys.toArray)).run P w = .ok (ceq xs ys) w /\ P.eqGuardType P.depth t = false
def TabOK (P : Program) (T : TypeId -> Option Ty) : Prop := ∀ t y, T t = some y -> TyOK P t y
def ecs (T : TypeId -> Option Ty) (t : TypeId) : Nat :=
 match T t with
 | some y => match y.kd with
  | .slice e => match T e with
   | some z => z.size
   | none => 0
  | _ => 0
 | none => 0
def fix (T : TypeId -> Option Ty) (t : TypeId) : V -> V
 | .nil _ => .nil (ecs T t)
 | v => v
def evO [Glob] (st : St) : Operand -> V
 | .tmp t => st.s t
 | .const x => match x with
  | .slice none 0 0 => .nil 0
  | x => if scal x then .p (.v x) else .junk
 | .global g => match Glob.g g with
  | some e => .rptr e 0
  | none => .junk
 | .func f => .p (.v (.func (.func f) #[] #[]))
def toPF : List Fc -> Option (List PV)
 | [] => some []
 | .p p :: l => match toPF l with
  | some r => some (p :: r)
  | none => none
 | .nil c :: l => match toPF l with
  | some r => some (.sl c [] :: r)
  | none => none
 | .row _ :: _ => none
def toP : V -> Option PV
 | .p x => some x
 | .nil c => some (.sl c [])
 | .full c l => some (.sl c l)
 | .ag l => match toPF l with
  | some ps => some (.agg ps)
  | none => none
 | _ => none
def toPs : List V -> Option (List PV)
 | [] => some []
 | v :: l => match toP v, toPs l with
  | some p, some r => some (p :: r)
  | _, _ => none
def V.one : V -> Bool
 | .p x => x.one
 | .tup _ | .junk | .ag _ => false
 | _ => true
theorem RP.mono {w : World} {G G' : Nat -> Prop} (hG : ∀ k, G' k -> G k) {p : PV} {x : Value} (h : RP w G p x) : RP w G' p x :=
 h.move (Nat.le_refl _) (fun _ _ _ => rfl) (fun k _ hg => hG k hg)
theorem toPF_get : ∀ {l : List Fc} {ps : List PV}, toPF l = some ps -> ps.length = l.length /\ ∀ (j : Nat) (p : PV), ps[j]? = some p -> l[j]? = some (.p p) \/ ∃ c, l[j]? = some (.nil c) /\ p = .sl c []
 | [], ps, h => by simp only [toPF, Option.some.injEq] at h; subst h; simp
 | .p q :: l, ps, h => by
  simp only [toPF] at h
  split at h
  ·rename_i r hr
   simp only [Option.some.injEq] at h
   subst h
   obtain ⟨h1, h2⟩ := toPF_get hr
   refine ⟨by simp [h1], fun j p hj => ?_⟩
   cases j with
   | zero => simp at hj; subst hj; exact .inl rfl
   | succ j => simpa using h2 j p (by simpa using hj)
  ·simp at h
 | .nil c :: l, ps, h => by
  simp only [toPF] at h
  split at h
  ·rename_i r hr
   simp only [Option.some.injEq] at h
   subst h
   obtain ⟨h1, h2⟩ := toPF_get hr
   refine ⟨by simp [h1], fun j p hj => ?_⟩
   cases j with
   | zero => simp at hj; subst hj; exact .inr ⟨c, rfl, rfl⟩
   | succ j => simpa using h2 j p (by simpa using hj)
  ·simp at h
 | .row _ :: l, ps, h => by simp [toPF] at h
theorem RP.oneP {w : World} {G : Nat -> Prop} {p : PV} {x : Value} (h : RP w G p x) (hx : x.oneCell' = true) : p.one = true := by
 cases h <;> first | rfl | simp [Value.oneCell'] at hx
theorem RV0.toPag {w : World} {G : Nat -> Prop} {m : Nm} {l : List Fc} {ps : List PV} {x : Value} (h : RV0 w G m (.ag l) x) (hp : toPF l = some ps) : RP w G (.agg ps) x := by
 obtain ⟨cs, rfl, hl, hc⟩ := h
 obtain ⟨h1, h2⟩ := toPF_get hp
 have key : ∀ (j : Nat) (p : PV), ps[j]? = some p -> cs[j]? = some (cs.getD j undef) /\ p.one = true /\ RP w G p (cs.getD j undef) := fun j p hj => by
  obtain ⟨y, h3, h4, h6⟩ : ∃ y, cs[j]? = some y /\ y.oneCell' = true /\ RP w G p y := by
   rcases h2 j p hj with h2 | ⟨c, h2, rfl⟩
   ·exact hc j _ h2
   ·obtain ⟨y, h3, h4, h5⟩ := hc j _ h2
    exact ⟨y, h3, h4, by rw [show y = .slice none 0 0 from h5]; exact .nil _⟩
  rw [show cs.getD j undef = y by simp [Array.getD_eq_getD_getElem?, h3]]
  exact ⟨h3, h6.oneP h4, h6⟩
 exact .agg ps cs (fun j => cs.getD j undef) (by rw [hl, h1]) (fun j p hj => (key j p hj).2.1) (fun j p hj => (key j p hj).1) (fun j p hj => (key j p hj).2.2)
theorem RV0.toP {w : World} {G : Nat -> Prop} {m : Nm} {v : V} {x : Value} {p : PV} (h : RV0 w G m v x) (hp : toP v = some p) : RP w G p x := by
 cases v with
 | ag l =>
  simp only [Av.toP] at hp
  split at hp
  ·rename_i ps hps
   simp only [Option.some.injEq] at hp
   subst hp
   exact h.toPag hps
  ·simp at hp
 | p q => simp only [Av.toP, Option.some.injEq] at hp; subst hp; exact h
 | nil c => simp only [Av.toP, Option.some.injEq] at hp; subst hp; rw [show x = .slice none 0 0 from h]; exact .nil _
 | full c l => simp only [Av.toP, Option.some.injEq] at hp; subst hp; exact h.1
 | _ => simp [Av.toP] at hp
theorem RV.toP [Glob] {w : World} {G : Nat -> Prop} {m : Nm} {v : V} {x : Value} {p : PV} (h : RV w G m v x) (hp : toP v = some p) : RP w G p x := by
 cases v with
 | p q => exact RV0.toP (w := w) (G := G) (m := m) (v := .p q) h hp
 | nil c => exact RV0.toP (w := w) (G := G) (m := m) (v := .nil c) h hp
 | full c l => exact RV0.toP (w := w) (G := G) (m := m) (v := .full c l) h hp
 | ag l => exact RV0.toP (w := w) (G := G) (m := m) (v := .ag l) h hp
 | _ => simp [Av.toP] at hp
theorem RV.fix {w : World} {G : Nat -> Prop} {m : Nm} {v : V} {x : Value} (T : TypeId -> Option Ty) (t : TypeId) (h : RV w G m v x) : RV w G m (fix T t v) x := by
 cases v <;> exact h
theorem RV0.fix {w : World} {G : Nat -> Prop} {m : Nm} {v : V} {x : Value} (T : TypeId -> Option Ty) (t : TypeId) (h : RV0 w G m v x) : RV0 w G m (fix T t v) x := by
 cases v <;> exact h
theorem RV0.one {w : World} {G : Nat -> Prop} {m : Nm} {v : V} {x : Value} (h : RV0 w G m v x) (hv : v.one = true) (hr : ∀ b, v = .row b -> x.oneCell' = true) : x.oneCell' = true := by
 cases v with
 | p p => exact RP.oneCell h hv
 | nil c => rw [show x = .slice none 0 0 from h]; rfl
 | full c l => obtain ⟨-, a, rfl⟩ := h; rfl
 | ptr b off => rw [show x = _ from h]; rfl
 | eptr b c i j => obtain ⟨k, -, rfl⟩ := h; rfl
 | rptr e j => obtain ⟨k, off, rfl, -⟩ := h; rfl
 | row b => exact hr b rfl
 | clo f caps => obtain ⟨cs, rfl, -⟩ := h; unfold fnv; split <;> rfl
 | ag l => simp [V.one] at hv
 | suf b c i => obtain ⟨a0, a1, len, cap, -, -, rfl, -⟩ := h; rfl
 | tup l => exact h.elim
 | junk => simp [V.one] at hv
theorem RV.to0 {w : World} {G : Nat -> Prop} {m : Nm} {v : V} {x : Value} (h : RV w G m v x) (hv : v.one = true) : RV0 w G m v x := by
 cases v <;> first | exact h | simp [V.one] at hv
section
variable {P : Program} {T : TypeId -> Option Ty} {w0 : World} {m0 : Nm} {F X : Nat -> Prop} {N : Nat} {st : St} {a : Act} {w : World} {m : Nm}
theorem Rel.evO [Glob] (h : Rel w0 m0 F X N st a w m) (o : Operand) : RV w (Gd F m st.b) m (Av.evO st o) (a.eval o) := by
 cases o with
 | tmp t => exact h.tmps t
 | const x =>
  simp only [Av.evO, Act.eval]
  split
  ·exact rfl
  ·split
   ·exact RV.of0 (v := .p _) (RP.v x ‹_›)
   ·trivial
 | global g =>
  simp only [Av.evO, Act.eval]
  split
  ·rename_i e he
   exact ⟨g, 0, rfl, (h.glob g e he).2.2⟩
  ·trivial
 | func f => exact RV.of0 (v := .p _) (RP.v _ rfl)
theorem addr_add (k off n : Nat) : (⟨k, off, none⟩ : Addr).add n = ⟨k, off + n, none⟩ := by
 unfold Addr.add
 split
 ·subst_vars; rfl
 ·rfl
theorem TyOK.run_info {t : TypeId} {y : Ty} (h : TyOK P t y) (w : World) : (sizeOf t).run P w = .ok y.size w := by
 obtain ⟨i, z, hi, hs, -⟩ := h.info
 simp [sizeOf, typeInfo, hi, hs]
theorem TyOK.run_under {t : TypeId} {y : Ty} (h : TyOK P t y) : ∃ d, P.underlying t = some d /\ (d matches .struct _ | .array _ _) = y.kd.isAgg := by
 have := h.kind
 cases hk : y.kd <;> simp only [hk] at this
 ·obtain ⟨d, h1, h2⟩ := this; exact ⟨d, h1, h2⟩
 ·exact ⟨_, this, rfl⟩
 ·exact ⟨_, this, rfl⟩
 ·exact ⟨_, this, rfl⟩
 ·exact ⟨_, this, rfl⟩
 ·obtain ⟨f, h1, h2⟩ := this; exact ⟨_, h1, rfl⟩
 ·exact ⟨_, this, rfl⟩
 ·exact ⟨_, this.1, rfl⟩
theorem TyOK.run_isAgg [Glob] {t : TypeId} {y : Ty} (h : TyOK P t y) (w : World) : (isAgg t).run P w = .ok y.kd.isAgg w := by
 obtain ⟨d, h1, h2⟩ := h.run_under
 rw [<- h2]
 cases d <;> simp [isAgg, run_underlying h1]
theorem TyOK.run_zero {t : TypeId} {y : Ty} (h : TyOK P t y) (w : World) : ∃ z : Value, (zeroValue t).run P w = .ok z w /\ z.cells.toList.map some = y.zero.map zval := by
 obtain ⟨i, z, hi, hs, hb, hz, hc, -⟩ := h.info
 exact ⟨z, by simp [zeroValue, typeInfo, hi, hz], hc⟩
theorem zval_RV0 {v : V} {x : Value} (G : Nat -> Prop) (m : Nm) (h : some x = zval v) : RV0 w G m v x /\ x.oneCell' = true := by
 cases v <;> simp only [zval, reduceCtorEq] at h
 case p p =>
  cases p <;> simp only [reduceCtorEq] at h
  split at h
  ·rename_i x' hs
   simp only [Option.some.injEq] at h
   subst h
   exact ⟨RP.v x hs, RP.oneCell (w := w) (G := G) (RP.v x hs) rfl⟩
  ·simp at h
 case nil c =>
  simp only [Option.some.injEq] at h
  subst h
  exact ⟨rfl, rfl⟩
end
def ibin (op : BinOp) (k : IntKind) (a b : Int) : Option Value :=
 match op with
 | .add => some (.int k (k.wrap (a + b)))
 | .sub => some (.int k (k.wrap (a - b)))
 | .mul => some (.int k (k.wrap (a * b)))
 | .eql => some (.bool (a == b))
 | .neq => some (.bool (a != b))
 | .lss => some (.bool (a < b))
 | .leq => some (.bool (a <= b))
 | .gtr => some (.bool (a > b))
 | .geq => some (.bool (a ≥ b))
 | .quo => if b = 0 then none else some (.int k (k.wrap (a.tdiv b)))
 | .rem => if b = 0 then none else some (.int k (a.tmod b))
 | .and | .or | .xor | .andNot =>
  let x := BitVec.ofInt k.bits a
  let y := BitVec.ofInt k.bits b
  match op with
  | .and => some (.int k (k.wrap (x &&& y).toNat))
  | .or => some (.int k (k.wrap (x ||| y).toNat))
  | .xor => some (.int k (k.wrap (x ^^^ y).toNat))
  | _ => some (.int k (k.wrap (x &&& ~~~y).toNat))
 | _ => none
def ishift (op : BinOp) (k : IntKind) (a b : Int) : Option Value :=
 if b < 0 then none else
 match op with
 | .shl => some (.int k (k.wrap (a * 2 ^ (min b.toNat k.bits))))
 | .shr => some (.int k (a.fdiv (2 ^ (min b.toNat k.bits))))
 | _ => none
def sbin (op : BinOp) (a b : ByteArray) : Option Value :=
 match op with
 | .add => if a.size + b.size <= 9223372036854775807 then some (.string (a ++ b)) else none
 | .eql => some (.bool (a.toList == b.toList))
 | .neq => some (.bool !(a.toList == b.toList))
 | .lss => some (.bool (Op.bytesLess a.toList b.toList))
 | .leq => some (.bool (Op.bytesLess a.toList b.toList || a.toList == b.toList))
 | .gtr => some (.bool !(Op.bytesLess a.toList b.toList || a.toList == b.toList))
 | .geq => some (.bool !(Op.bytesLess a.toList b.toList))
 | _ => none
def isShift : BinOp -> Bool
 | .shl | .shr => true
 | _ => false
def abin (T : TypeId -> Option Ty) (op : BinOp) (t : TypeId) : Value -> Value -> Option Value
 | .int k a, .int k' b => if isShift op then ishift op k a b else if k = k' then ibin op k a b else none
 | .string a, .string b => sbin op a b
 | .bool a, .bool b => match T t with
  | some y => match y.kd with
   | .bool => match op with
    | .eql => some (.bool (a == b))
    | .neq => some (.bool (!(a == b)))
    | _ => none
   | _ => none
  | none => none
 | _, _ => none
theorem abin_run {P : Program} {T : TypeId -> Option Ty} (hT : TabOK P T) {op : BinOp} {t : TypeId} {x y z : Value} (h : abin T op t x y = some z) (w : World) : (binOp op t x y).run P w = .ok z w := by
 unfold abin at h
 split at h
 ·rename_i k a k' b
  split at h
  ·unfold ishift at h
   split at h
   ·simp at h
   ·rename_i hs hb
    cases op <;> simp only [isShift, Bool.false_eq_true] at hs <;> simp only [Option.some.injEq] at h <;> subst h <;> simp [binOp, Op.shift, hb]
  ·rename_i hs
   split at h
   ·rename_i hk
    subst hk
    unfold ibin at h
    cases op <;> simp only [isShift, not_true_eq_false, Option.some.injEq, reduceCtorEq] at hs h
    case quo => split at h <;> simp at h; subst h; simp [binOp, Op.intDiv, *]
    case rem => split at h <;> simp at h; subst h; simp [binOp, Op.intDiv, *]
    all_goals (subst h; simp [binOp, Op.intArith, Op.intCmp, Op.intBits])
   ·simp at h
 ·rename_i a b
  unfold sbin at h
  cases op <;> simp only [Option.some.injEq, reduceCtorEq] at h
  case add =>
   split at h
   ·rename_i hs
    simp only [Option.some.injEq] at h; subst h
    simp only [binOp]
    exact run_string_add_sum w a b hs
   ·simp at h
  all_goals (subst h; simp [binOp, Op.stringOp])
 ·rename_i a b
  split at h
  ·rename_i y hy
   have hk := (hT t y hy).kind
   split at h
   ·rename_i hkd
    simp only [hkd] at hk
    cases op <;> simp only [Option.some.injEq, reduceCtorEq] at h <;> subst h <;> simp [binOp, run_equal_bool w t a b hk]
   ·simp at h
  ·simp at h
 ·simp at h
def sVals : List PV -> Option (List Value)
 | [] => some []
 | .v x :: l => (sVals l).map (x :: ·)
 | _ :: _ => none
def fitsSB : Sk -> Value -> Bool
 | .int k, .int k' _ => k == k'
 | .str, .string _ => true
 | .bool, .bool _ => true
 | _, _ => false
def fitsB : List Sk -> List Value -> Bool
 | [], [] => true
 | k :: ks, x :: xs => fitsSB k x && fitsB ks xs
 | _, _ => false
theorem fitsB_spec : ∀ {ks : List Sk} {xs : List Value}, fitsB ks xs = true -> fitsL ks xs
 | [], [], _ => rfl
 | [], _ :: _, h => by simp [fitsB] at h
 | _ :: _, [], h => by simp [fitsB] at h
 | k :: ks, x :: xs, h => by
  simp only [fitsB, Bool.and_eq_true] at h
  refine ⟨x, xs, rfl, ?_, fitsB_spec h.2⟩
  have h1 := h.1
  cases k <;> cases x <;> simp [fitsSB, fitsS] at h1 ⊢
  exact h1.symm
def aggE (T : TypeId -> Option Ty) (op : BinOp) (t : TypeId) (xs ys : List PV) : Option Value :=
 match T t with
 | none => none
 | some y => match y.eq with
  | none => none
  | some ks => match sVals xs, sVals ys with
   | some a, some b => if fitsB ks a && fitsB ks b then match op with
    | .eql => some (.bool (ceq a b))
    | .neq => some (.bool (!(ceq a b)))
    | _ => none
    else none
   | _, _ => none
theorem sVals_RP {w : World} {G : Nat -> Prop} : ∀ {l : List PV} {a : List Value}, sVals l = some a -> ∀ {cs : List Value}, cs.length = l.length →
 (∀ (j : Nat) (p : PV), l[j]? = some p -> ∃ u, cs[j]? = some u /\ RP w G p u) -> cs = a
 | [], a, h, cs, hl, _ => by
  simp [sVals] at h; subst h
  exact List.length_eq_zero_iff.1 hl
 | p :: l, a, h, cs, hl, hc => by
  cases p <;> simp only [sVals, reduceCtorEq, Option.map_eq_some_iff] at h
  rename_i x
  obtain ⟨r, hr, rfl⟩ := h
  cases cs with
  | nil => simp at hl
  | cons u cs =>
   obtain ⟨u', h1, h2⟩ := hc 0 _ rfl
   simp only [List.getElem?_cons_zero, Option.some.injEq] at h1
   subst h1
   cases h2
   exact congrArg (x :: ·) (sVals_RP (w := w) (G := G) hr (by simpa using hl) (fun j p hj => by have := hc (j + 1) p (by simpa using hj); simpa using this))
theorem aggE_run [Glob] {P : Program} {T : TypeId -> Option Ty} (hT : TabOK P T) {op : BinOp} {t : TypeId} {xs ys : List PV} {z : Value} (h : aggE T op t xs ys = some z) {w : World} {G : Nat -> Prop} {x y : Value}
 (hx : RP w G (.agg xs) x) (hy : RP w G (.agg ys) y) (o1 o2 : Operand) : (do eqGuard op t o1 o2 x y; binOp op t x y : Sem Value).run P w = .ok z w := by
 unfold aggE at h
 split at h
 ·simp at h
 rename_i ty hty
 split at h
 ·simp at h
 rename_i ks hks
 split at h
 ·rename_i a b ha hb
  split at h
  ·rename_i hf
   simp only [Bool.and_eq_true] at hf
   cases hx with
   | agg _ cs u hs hone hcell hr =>
    cases hy with
    | agg _ ds u' hs' hone' hcell' hr' =>
     have e1 : cs.toList = a := sVals_RP (w := w) (G := G) ha (by simpa using hs) (fun j p hj => ⟨u j, by simpa using hcell j p hj, hr j p hj⟩)
     have e2 : ds.toList = b := sVals_RP (w := w) (G := G) hb (by simpa using hs') (fun j p hj => ⟨u' j, by simpa using hcell' j p hj, hr' j p hj⟩)
     obtain ⟨hagg, heq⟩ := (hT t ty hty).eq ks hks
     obtain ⟨h1, h2⟩ := heq a b (fitsB_spec hf.1) (fitsB_spec hf.2) w
     have e3 : cs = a.toArray := by rw [<- e1]
     have e4 : ds = b.toArray := by rw [<- e2]
     rw [e3, e4]
     cases op <;> simp only [Option.some.injEq, reduceCtorEq] at h <;> subst h
     ·simp [eqGuard, binOp, h1, h2]
     ·simp [eqGuard, binOp, h1, h2]
  ·simp at h
 ·simp at h
def toF : V -> Option Fc
 | .row b => some (.row b)
 | .p x => if x.one then some (.p x) else none
 | .nil c => some (.nil c)
 | .full c l => some (.p (.sl c l))
 | _ => none
def toFs : List V -> Option (List Fc)
 | [] => some []
 | v :: l => match toF v, toFs l with
  | some p, some r => some (p :: r)
  | _, _ => none
theorem toFs_get : ∀ {l : List V} {fs : List Fc}, toFs l = some fs -> fs.length = l.length /\ ∀ (j : Nat) (c : Fc), fs[j]? = some c -> ∃ v, l[j]? = some v /\ toF v = some c
 | [], fs, h => by simp only [toFs, Option.some.injEq] at h; subst h; simp
 | v :: l, fs, h => by
  simp only [toFs] at h
  split at h
  ·rename_i p r hp hr
   simp only [Option.some.injEq] at h
   subst h
   obtain ⟨h1, h2⟩ := toFs_get hr
   refine ⟨by simp [h1], fun j c hj => ?_⟩
   cases j with
   | zero => simp at hj; subst hj; exact ⟨v, rfl, hp⟩
   | succ j => simpa using h2 j c (by simpa using hj)
  ·simp at h
theorem RV0.toF {w : World} {G : Nat -> Prop} {m : Nm} {v : V} {x : Value} {c : Fc} (h : RV0 w G m v x) (hc : toF v = some c) : RF w G m c x := by
 cases v with
 | row b => simp only [Av.toF, Option.some.injEq] at hc; subst hc; exact h
 | p q =>
  simp only [Av.toF] at hc
  split at hc
  ·simp only [Option.some.injEq] at hc; subst hc; exact h
  ·simp at hc
 | nil c => simp only [Av.toF, Option.some.injEq] at hc; subst hc; exact h
 | full c l => simp only [Av.toF, Option.some.injEq] at hc; subst hc; exact h.1
 | _ => simp [Av.toF] at hc
def ldV (T : TypeId -> Option Ty) (t : TypeId) (cells : List V) (off : Nat) : Option V :=
 match T t with
 | none => none
 | some y => if y.kd.isAgg then
  if off + y.size <= cells.length then match toPs ((cells.drop off).take y.size) with
   | some l => some (.p (.agg l))
   | none => match toFs ((cells.drop off).take y.size) with
    | some l => some (.ag l)
    | none => none
   else none
  else cells[off]?
def ldP (T : TypeId -> Option Ty) (t : TypeId) (e : List PV) (off : Nat) : Option V :=
 match T t with
 | none => none
 | some y => if y.kd.isAgg then
  if off + y.size <= e.length then some (.p (.agg ((e.drop off).take y.size))) else none
  else (e[off]?).map .p
def ld (T : TypeId -> Option Ty) (st : St) (t : TypeId) : V -> Option V
 | .ptr b off => match st.b b with
  | some (.box _ cells) => ldV T t cells off
  | _ => none
 | .eptr b c i j => match st.b b with
  | some (.row _ c' l) => if c = c' then match l[i]? with
   | some e => ldP T t e j
   | none => none
   else none
  | _ => none
 | .rptr e j => ldP T t e j
 | _ => none
theorem run_loadVar_one [Glob] {P : Program} {t : TypeId} {y : Ty} (h : TyOK P t y) (hk : y.kd.isAgg = false) {w : World} {a : Addr} {u : Value} (hc : w.cell? a = some u) : (loadVar t a).run P w = .ok u w := by
 simp [loadVar, h.run_isAgg, hk, hc]
theorem run_loadVar_agg [Glob] {P : Program} {t : TypeId} {y : Ty} (h : TyOK P t y) (hk : y.kd.isAgg = true) {w : World} {a : Addr} (cs : List Value) (hl : cs.length = y.size)
 (hc : ∀ j v, cs[j]? = some v -> w.cell? (a.add j) = some v) : (loadVar t a).run P w = .ok (.agg cs.toArray) w := by
 have := run_loadCells_list (P := P) w a cs hc
 simp [loadVar, h.run_isAgg, hk, h.run_info, <- hl, this]
theorem ld_agg [Glob] {P : Program} {t : TypeId} {y : Ty} (h : TyOK P t y) (hk : y.kd.isAgg = true) {w : World} {G : Nat -> Prop} {k off : Nat} (ps : List PV) (hl : ps.length = y.size)
 (hc : ∀ (j : Nat) (p : PV), ps[j]? = some p -> p.one = true /\ ∃ u, w.cell? ⟨k, off + j, none⟩ = some u /\ RP w G p u) :
 ∃ x, (loadVar t ⟨k, off, none⟩).run P w = .ok x w /\ RP w G (.agg ps) x := by
 have hf : ∀ (j : Nat) (p : PV), ps[j]? = some p -> w.cell? ⟨k, off + j, none⟩ = some ((w.cell? ⟨k, off + j, none⟩).getD undef) /\ RP w G p ((w.cell? ⟨k, off + j, none⟩).getD undef) := fun j p hj => by
  obtain ⟨-, u, h1, h2⟩ := hc j p hj
  rw [h1]; exact ⟨rfl, h2⟩
 refine ⟨_, run_loadVar_agg h hk ((List.range ps.length).map fun j => (w.cell? ⟨k, off + j, none⟩).getD undef) (by simpa using hl) (fun j v hj => ?_), ?_⟩
 ·rw [List.getElem?_map] at hj
  by_cases hjl : j < ps.length
  ·rw [List.getElem?_range hjl] at hj
   simp only [Option.map_some, Option.some.injEq] at hj
   rw [addr_add, <- hj]
   exact (hf j _ (List.getElem?_eq_getElem hjl)).1
  ·rw [List.getElem?_eq_none (by simpa using hjl)] at hj; simp at hj
 ·refine .agg ps _ (fun j => (w.cell? ⟨k, off + j, none⟩).getD undef) (by simp) (fun j p hj => (hc j p hj).1) (fun j p hj => ?_) (fun j p hj => (hf j p hj).2)
  have hjl : j < ps.length := (List.getElem?_eq_some_iff.1 hj).1
  simp [hjl]
def REc (w : World) (G : Nat -> Prop) (e : List PV) (k off : Nat) : Prop :=
 ∀ (j : Nat) (p : PV), e[j]? = some p -> p.one = true /\ ∃ u, w.cell? ⟨k, off + j, none⟩ = some u /\ RP w G p u
theorem ldP_run [Glob] {P : Program} {T : TypeId -> Option Ty} (hT : TabOK P T) {t : TypeId} {e : List PV} {j : Nat} {v : V} (h : ldP T t e j = some v) {w : World} {G : Nat -> Prop} {m : Nm} {k off : Nat} (he : REc w G e k off) :
 ∃ x, (loadVar t ⟨k, off + j, none⟩).run P w = .ok x w /\ RV0 w G m v x := by
 unfold ldP at h
 split at h
 ·simp at h
 rename_i y hy
 split at h
 ·rename_i hk
  split at h
  ·rename_i hl
   simp only [Option.some.injEq] at h
   subst h
   refine ld_agg (hT t y hy) hk _ (by simp; omega) (fun i p hi => ?_)
   rw [List.getElem?_take] at hi
   split at hi
   ·rw [List.getElem?_drop] at hi
    have := he (j + i) p hi
    rw [<- Nat.add_assoc] at this
    exact this
   ·simp at hi
  ·simp at h
 ·rename_i hk
  simp only [Option.map_eq_some_iff] at h
  obtain ⟨p, hp, rfl⟩ := h
  obtain ⟨-, u, h1, h2⟩ := he j p hp
  exact ⟨u, run_loadVar_one (hT t y hy) (by simpa using hk) h1, h2⟩
theorem one_of_oneCell {w : World} {G : Nat -> Prop} {p : PV} {x : Value} (h : RP w G p x) (hx : x.oneCell' = true) : p.one = true := by
 cases h <;> first | rfl | simp [Value.oneCell'] at hx
theorem toPs_get : ∀ {l : List V} {ps : List PV}, toPs l = some ps -> ps.length = l.length /\ ∀ (j : Nat) (p : PV), ps[j]? = some p -> ∃ v, l[j]? = some v /\ toP v = some p
 | [], ps, h => by simp [toPs] at h; subst h; simp
 | v :: l, ps, h => by
  simp only [toPs] at h
  split at h
  ·rename_i p r hp hr
   simp only [Option.some.injEq] at h
   subst h
   obtain ⟨h1, h2⟩ := toPs_get hr
   refine ⟨by simp [h1], fun j q hj => ?_⟩
   cases j with
   | zero => simp at hj; subst hj; exact ⟨v, rfl, hp⟩
   | succ j => simpa using h2 j q (by simpa using hj)
  ·simp at h
section
variable {P : Program} {T : TypeId -> Option Ty} {w0 : World} {m0 : Nm} {F X : Nat -> Prop} {N : Nat} {st : St} {a : Act} {w : World} {m : Nm}
theorem ldV_run [Glob] (hT : TabOK P T) {t : TypeId} {b e : Nat} {cells : List V} {off : Nat} {v : V} (h : ldV T t cells off = some v) {G : Nat -> Prop} (hb : RB w G m b (.box e cells)) :
 ∃ x, (loadVar t ⟨m.i b, off, none⟩).run P w = .ok x w /\ RV0 w G m v x := by
 obtain ⟨cs, hc, hs, hl⟩ := hb
 have hcell : ∀ (j : Nat) (v : V), cells[j]? = some v -> ∃ x, w.cell? ⟨m.i b, j, none⟩ = some x /\ x.oneCell' = true /\ RV0 w G m v x := fun j v hj => by
  obtain ⟨x, h1, h2, h3⟩ := hl j v hj
  exact ⟨x, by simp [World.cell?, hc, h1], h2, h3⟩
 unfold ldV at h
 split at h
 ·simp at h
 rename_i y hy
 split at h
 ·rename_i hk
  split at h
  ·rename_i hle
   split at h
   case h_2 =>
    split at h
    ·rename_i fs hfs
     simp only [Option.some.injEq] at h
     subst h
     obtain ⟨h1, h2⟩ := toFs_get hfs
     have hlen : fs.length = y.size := by rw [h1]; simp; omega
     have hf : ∀ (j : Nat) (c : Fc), fs[j]? = some c -> w.cell? ⟨m.i b, off + j, none⟩ = some ((w.cell? ⟨m.i b, off + j, none⟩).getD undef) /\ ((w.cell? ⟨m.i b, off + j, none⟩).getD undef).oneCell' = true /\ RF w G m c ((w.cell? ⟨m.i b, off + j, none⟩).getD undef) := fun j c hj => by
      obtain ⟨v, hv, hvp⟩ := h2 j c hj
      rw [List.getElem?_take] at hv
      split at hv
      ·rw [List.getElem?_drop] at hv
       obtain ⟨x, h3, h4, h5⟩ := hcell _ _ hv
       rw [h3]
       exact ⟨rfl, h4, h5.toF hvp⟩
      ·simp at hv
     refine ⟨_, run_loadVar_agg (hT t y hy) hk ((List.range fs.length).map fun j => (w.cell? ⟨m.i b, off + j, none⟩).getD undef) (by simpa using hlen) (fun j v hj => ?_), ?_⟩
     ·rw [List.getElem?_map] at hj
      by_cases hjl : j < fs.length
      ·rw [List.getElem?_range hjl] at hj
       simp only [Option.map_some, Option.some.injEq] at hj
       rw [addr_add, <- hj]
       exact (hf j _ (List.getElem?_eq_getElem hjl)).1
      ·rw [List.getElem?_eq_none (by simpa using hjl)] at hj; simp at hj
     ·refine ⟨_, rfl, by simp, fun j c hj => ?_⟩
      have hjl : j < fs.length := (List.getElem?_eq_some_iff.1 hj).1
      exact ⟨_, by simp [hjl], (hf j c hj).2.1, (hf j c hj).2.2⟩
    ·simp at h
   rename_i ps hps
   simp only [Option.some.injEq] at h
   subst h
   obtain ⟨h1, h2⟩ := toPs_get hps
   refine ld_agg (hT t y hy) hk ps (by rw [h1]; simp; omega) (fun j p hj => ?_)
   obtain ⟨v, hv, hvp⟩ := h2 j p hj
   rw [List.getElem?_take] at hv
   split at hv
   ·rw [List.getElem?_drop] at hv
    obtain ⟨x, h3, h4, h5⟩ := hcell _ _ hv
    have h6 := h5.toP hvp
    exact ⟨one_of_oneCell h6 h4, x, h3, h6⟩
   ·simp at hv
  ·simp at h
 ·rename_i hk
  obtain ⟨x, h1, -, h3⟩ := hcell off v h
  exact ⟨x, run_loadVar_one (hT t y hy) (by simpa using hk) h1, h3⟩
theorem ld_run [Glob] (hT : TabOK P T) (h : Rel w0 m0 F X N st a w m) {t : TypeId} {p : V} {v : V} (hv : ld T st t p = some v) {q : Value} (hq : RV w (Gd F m st.b) m p q) :
 ∃ x, (Instr.loadAt t q).run P w = .ok x w /\ RV w (Gd F m st.b) m v x := by
 suffices hs : ∃ x, (Instr.loadAt t q).run P w = .ok x w /\ RV0 w (Gd F m st.b) m v x from let ⟨x, h1, h2⟩ := hs; ⟨x, h1, .of0 h2⟩
 cases p <;> simp only [ld, reduceCtorEq] at hv
 case ptr b off =>
  rw [show q = .pointer (some ⟨m.i b, off, none⟩) from hq]
  split at hv
  ·rename_i e cells hb
   obtain ⟨x, h1, h2⟩ := ldV_run hT hv (h.blks b _ hb)
   exact ⟨x, by simpa [Instr.loadAt, Instr.sureAddr] using h1, h2⟩
  ·simp at hv
 case eptr b c i j =>
  obtain ⟨k, hk, rfl⟩ := hq
  split at hv
  ·rename_i e c' l hb
   split at hv
   ·rename_i hcc
    subst hcc
    split at hv
    ·rename_i el hel
     rcases h.blks b _ hb with ⟨-, -, hl0⟩ | ⟨g, cap, cur, hr, hc0, hlc, hcm, hh, hs, hl⟩
     ·subst hl0; simp at hel
     obtain ⟨hlen, hcs⟩ := hl i el hel
     have hgk : g = k := by
      rw [hr] at hk
      unfold ownB at hk
      simp only [if_neg (show ¬ cap = 0 by omega), Option.some.injEq] at hk
      exact hk
     subst hgk
     have hcell : ∀ jj u, cur[jj]? = some u -> w.cell? ⟨g, 0 + jj, none⟩ = some u := fun jj u hj => by
      simpa [World.cell?, hh] using hj
     obtain ⟨x, h1, h2⟩ := ldP_run hT (m := m) (w := w) (G := Gd F m st.b) (k := g) (off := i * c) hv (fun jj p hj => by
      obtain ⟨h5, u, h6, h7⟩ := hcs _ p hj
      exact ⟨h5, u, by have := hcell _ _ h6; rwa [Nat.zero_add] at this, h7⟩)
     exact ⟨x, by simpa [Instr.loadAt, Instr.sureAddr] using h1, h2⟩
    ·simp at hv
   ·simp at hv
  ·simp at hv
 case rptr e j =>
  obtain ⟨k, off, rfl, he⟩ := hq
  obtain ⟨x, h1, h2⟩ := ldP_run hT (m := m) hv he.2
  exact ⟨x, by simpa [Instr.loadAt, Instr.sureAddr] using h1, h2⟩
end
def flatP : PV -> List PV
 | .agg l => l
 | p => [p]
def AR (w : World) (G : Nat -> Prop) (cells : List PV) (cs : Array Value) : Prop :=
 cs.size = cells.length /\ ∀ (j : Nat) (p : PV), cells[j]? = some p -> p.one = true /\ ∃ u, cs[j]? = some u /\ RP w G p u
theorem RP.flat {w : World} {G : Nat -> Prop} {p : PV} {x : Value} (h : RP w G p x) : AR w G (flatP p) x.cells := by
 cases h with
 | agg l cs u hs hone hcell hr => exact ⟨hs, fun j p hj => ⟨hone j p hj, u j, hcell j p hj, hr j p hj⟩⟩
 | v x h =>
  have hx : x.cells = #[x] := by cases x <;> simp_all [scal, Value.cells]
  rw [hx]
  refine ⟨rfl, fun j p hj => ?_⟩
  cases j with
  | zero => simp [flatP] at hj; subst hj; exact ⟨rfl, x, rfl, .v x h⟩
  | succ j => simp [flatP] at hj
 | nil c =>
  refine ⟨rfl, fun j p hj => ?_⟩
  cases j with
  | zero => simp [flatP] at hj; subst hj; exact ⟨rfl, _, rfl, .nil c⟩
  | succ j => simp [flatP] at hj
 | emp c a =>
  refine ⟨rfl, fun j p hj => ?_⟩
  cases j with
  | zero => simp [flatP] at hj; subst hj; exact ⟨rfl, _, rfl, .emp c a⟩
  | succ j => simp [flatP] at hj
 | sl c l k off cap u hlen hm hk hc hone hcell hr =>
  refine ⟨rfl, fun j p hj => ?_⟩
  cases j with
  | zero => simp [flatP] at hj; subst hj; exact ⟨rfl, _, rfl, .sl c l k off cap u hlen hm hk hc hone hcell hr⟩
  | succ j => simp [flatP] at hj
theorem AR.agg {w : World} {G : Nat -> Prop} {cells : List PV} {cs : Array Value} (h : AR w G cells cs) : RP w G (.agg cells) (.agg cs) := by
 refine .agg cells cs (fun j => cs.getD j undef) h.1 (fun j p hj => (h.2 j p hj).1) (fun j p hj => ?_) (fun j p hj => ?_)
 ·obtain ⟨-, u, h1, -⟩ := h.2 j p hj
  simp [Array.getD_eq_getD_getElem?, h1]
 ·obtain ⟨-, u, h1, h2⟩ := h.2 j p hj
  simpa [Array.getD_eq_getD_getElem?, h1] using h2
theorem foldl_set_get (off : Nat) : ∀ (xs : List Value) (k : Nat) (cs : Array Value) (n : Nat), off + k + xs.length <= cs.size →
 ((xs.zipIdx k).foldl (fun cs (x : Value × Nat) => cs.setIfInBounds (off + x.2) x.1) cs)[n]? = if off + k <= n /\ n < off + k + xs.length then xs[n - off - k]? else cs[n]?
 | [], k, cs, n, _ => by simp; omega
 | x :: xs, k, cs, n, h => by
  simp only [List.zipIdx_cons, List.foldl_cons, List.length_cons] at h ⊢
  rw [foldl_set_get off xs (k + 1) _ n (by simp; omega)]
  by_cases h1 : off + (k + 1) <= n /\ n < off + (k + 1) + xs.length
  ·rw [if_pos h1, if_pos (by omega), show n - off - k = (n - off - (k + 1)) + 1 from by omega]
   rfl
  ·rw [if_neg h1]
   by_cases h2 : n = off + k
   ·rw [if_pos (by omega), show n - off - k = 0 from by omega, h2]
    rw [Array.getElem?_setIfInBounds_self_of_lt (by omega)]
    rfl
   ·rw [if_neg (by omega), Array.getElem?_setIfInBounds_ne (by omega)]
theorem foldl_set_size (off : Nat) : ∀ (xs : List Value) (k : Nat) (cs : Array Value), ((xs.zipIdx k).foldl (fun cs (x : Value × Nat) => cs.setIfInBounds (off + x.2) x.1) cs).size = cs.size
 | [], k, cs => rfl
 | x :: xs, k, cs => by
  simp only [List.zipIdx_cons, List.foldl_cons]
  rw [foldl_set_size off xs (k + 1)]
  simp
theorem splice_get {α : Type} (l q : List α) (off n : Nat) (h : off + q.length <= l.length) :
 (l.take off ++ q ++ l.drop (off + q.length))[n]? = if off <= n /\ n < off + q.length then q[n - off]? else l[n]? := by
 by_cases h1 : n < off
 ·rw [if_neg (by omega), List.append_assoc, List.getElem?_append_left (by simp; omega), List.getElem?_take, if_pos h1]
 ·by_cases h2 : n < off + q.length
  ·rw [if_pos (by omega), List.append_assoc, List.getElem?_append_right (by simp; omega), List.getElem?_append_left (by simp; omega)]
   congr 1; simp; omega
  ·rw [if_neg (by omega), List.getElem?_append_right (by simp; omega), List.getElem?_drop]
   congr 1; simp; omega
theorem AR.splice [Glob] {w : World} {G : Nat -> Prop} {cells q : List PV} {cs xs : Array Value} (h : AR w G cells cs) (hq : AR w G q xs) (off : Nat) (hle : off + q.length <= cells.length) :
 AR w G (cells.take off ++ q ++ cells.drop (off + q.length)) (xs.zipIdx.foldl (fun cs (c, j) => cs.setIfInBounds (off + j) c) cs) := by
 have e : xs.zipIdx.foldl (fun cs (c, j) => cs.setIfInBounds (off + j) c) cs = (xs.toList.zipIdx 0).foldl (fun cs (x : Value × Nat) => cs.setIfInBounds (off + x.2) x.1) cs := by
  rw [<- Array.foldl_toList, Array.toList_zipIdx]
 rw [e]
 have hxl : xs.toList.length = q.length := by simpa using hq.1
 refine ⟨by rw [foldl_set_size, h.1]; simp; omega, fun j p hj => ?_⟩
 rw [splice_get cells q off j hle] at hj
 rw [foldl_set_get off xs.toList 0 cs j (by rw [hxl, h.1]; omega)]
 rw [hxl]
 simp only [Nat.add_zero, Nat.sub_zero]
 split at hj
 ·rename_i hc
  rw [if_pos hc]
  have := hq.2 _ p hj
  simpa using this
 ·rename_i hc
  rw [if_neg hc]
  exact h.2 j p hj
def fillP (place : Nat -> Option (Nat × Nat)) : List PV -> List (Nat × PV) -> Option (List PV)
 | cells, [] => some cells
 | cells, (i, q) :: rest => match place i with
  | none => none
  | some (off, size) => if (flatP q).length = size /\ off + (flatP q).length <= cells.length then fillP place (cells.take off ++ flatP q ++ cells.drop (off + (flatP q).length)) rest else none
inductive PR (w : World) (G : Nat -> Prop) : List (Nat × PV) -> List (Nat × Value) -> Prop
 | nil : PR w G [] []
 | cons (i : Nat) (q : PV) (x : Value) (l : List (Nat × PV)) (r : List (Nat × Value)) (h : RP w G q x) (t : PR w G l r) : PR w G ((i, q) :: l) ((i, x) :: r)
theorem fill_run [Glob] {w : World} {G : Nat -> Prop} (place : Nat -> Option (Nat × Nat)) : ∀ {parts : List (Nat × PV)} {xs : List (Nat × Value)}, PR w G parts xs -> ∀ {cells : List PV} {cs : Array Value} {r : List PV},
 AR w G cells cs -> fillP place cells parts = some r -> ∃ rs, Instr.fill place cs xs = some rs /\ AR w G r rs := by
 intro parts xs h
 induction h with
 | nil => intro cells cs r ha hf; simp [fillP] at hf; subst hf; exact ⟨cs, rfl, ha⟩
 | cons i q x l xs hq ht ih =>
  intro cells cs r ha hf
  simp only [fillP] at hf
  simp only [Instr.fill]
  cases hp : place i with
  | none => rw [hp] at hf; simp at hf
  | some os =>
   obtain ⟨off, size⟩ := os
   rw [hp] at hf
   simp only at hf ⊢
   split at hf
   ·rename_i hc
    have hfl := hq.flat
    have hs : x.cells.size = size := by rw [hfl.1]; exact hc.1
    rw [if_neg (by simp only [Bool.or_eq_true, decide_eq_true_eq]; rw [hs, ha.1]; omega)]
    exact ih (ha.splice hfl off hc.2) hf
   ·simp at hf
def placesT (T : TypeId -> Option Ty) (fs : List (Nat × TypeId)) : Option (List (Nat × Nat)) :=
 match fs with
 | [] => some []
 | (o, t) :: r => match T t, placesT T r with
  | some y, some l => some ((o, y.size) :: l)
  | _, _ => none
theorem placesT_run {P : Program} {T : TypeId -> Option Ty} (hT : TabOK P T) : ∀ {fs : List (Nat × TypeId)} {ps : List (Nat × Nat)} {f : List Field}, placesT T fs = some ps -> f.map (fun f => (f.offset, f.type)) = fs →
 f.mapM (fun f => (P.info? f.type).map fun i => (f.offset, i.size)) = some ps
 | [], ps, f, h, hf => by simp [placesT] at h; subst h; simp at hf; subst hf; rfl
 | (o, t) :: r, ps, f, h, hf => by
  simp only [placesT] at h
  split at h
  ·rename_i y l hy hl
   simp only [Option.some.injEq] at h
   subst h
   cases f with
   | nil => simp at hf
   | cons f0 f =>
    simp only [List.map_cons, List.cons.injEq, Prod.mk.injEq] at hf
    obtain ⟨⟨rfl, rfl⟩, hf⟩ := hf
    obtain ⟨i, z, hi, hs, -⟩ := (hT _ y hy).info
    simp [List.mapM_cons, hi, hs, placesT_run hT hl hf]
  ·simp at h
theorem zero_AR [Glob] {P : Program} {t : TypeId} {y : Ty} (h : TyOK P t y) {ps : List PV} (hp : toPs y.zero = some ps) (w : World) (G : Nat -> Prop) :
 ∃ i z, P.info? t = some i /\ i.size = y.size /\ i.zero = some z /\ AR w G ps z.cells /\ z.cells.size = y.zero.length := by
 obtain ⟨i, z, hi, hs, hb, hz, hc, -⟩ := h.info
 have hlen : z.cells.size = y.zero.length := by have := congrArg List.length hc; simpa using this
 refine ⟨i, z, hi, hs, hz, ⟨by rw [hlen, (toPs_get hp).1], fun j p hj => ?_⟩, hlen⟩
 obtain ⟨v, hv, hvp⟩ := (toPs_get hp).2 j p hj
 have hj' := congrArg (fun l : List (Option Value) => l[j]?) hc
 simp only [List.getElem?_map, hv, Option.map_some] at hj'
 cases hx : z.cells.toList[j]? with
 | none => rw [hx] at hj'; simp at hj'
 | some x =>
  rw [hx] at hj'
  simp only [Option.map_some, Option.some.injEq] at hj'
  obtain ⟨h1, h2⟩ := zval_RV0 (w := w) G ⟨fun _ => 0, fun _ => undef⟩ hj'
  have h3 := h1.toP hvp
  exact ⟨one_of_oneCell h3 h2, x, by simpa using hx, h3⟩
def evParts [Glob] (T : TypeId -> Option Ty) (st : St) (ty : Nat -> TypeId) : List (Nat × Operand) -> Option (List (Nat × PV))
 | [] => some []
 | (i, x) :: r => match toP (fix T (ty i) (evO st x)), evParts T st ty r with
  | some p, some l => some ((i, p) :: l)
  | _, _ => none
def FR (w : World) (G : Nat -> Prop) (m : Nm) (cells : List Fc) (cs : Array Value) : Prop :=
 cs.size = cells.length /\ ∀ (j : Nat) (c : Fc), cells[j]? = some c -> ∃ y, cs[j]? = some y /\ y.oneCell' = true /\ RF w G m c y
theorem zero_FR [Glob] {P : Program} {t : TypeId} {y : Ty} (h : TyOK P t y) {fs : List Fc} (hp : toFs y.zero = some fs) (w : World) (G : Nat -> Prop) (m : Nm) :
 ∃ i z, P.info? t = some i /\ i.size = y.size /\ i.zero = some z /\ FR w G m fs z.cells := by
 obtain ⟨i, z, hi, hs, hb, hz, hc, -⟩ := h.info
 have hlen : z.cells.size = y.zero.length := by have := congrArg List.length hc; simpa using this
 refine ⟨i, z, hi, hs, hz, by rw [hlen, (toFs_get hp).1], fun j c hj => ?_⟩
 obtain ⟨v, hv, hvp⟩ := (toFs_get hp).2 j c hj
 have hj' := congrArg (fun l : List (Option Value) => l[j]?) hc
 simp only [List.getElem?_map, hv, Option.map_some] at hj'
 cases hx : z.cells.toList[j]? with
 | none => rw [hx] at hj'; simp at hj'
 | some x =>
  rw [hx] at hj'
  simp only [Option.map_some, Option.some.injEq] at hj'
  obtain ⟨h1, h2⟩ := zval_RV0 (w := w) G m hj'
  exact ⟨x, by simpa using hx, h2, h1.toF hvp⟩
theorem FR.splice [Glob] {w : World} {G : Nat -> Prop} {m : Nm} {cells q : List Fc} {cs xs : Array Value} (h : FR w G m cells cs) (hq : FR w G m q xs) (off : Nat) (hle : off + q.length <= cells.length) :
 FR w G m (cells.take off ++ q ++ cells.drop (off + q.length)) (xs.zipIdx.foldl (fun cs (c, j) => cs.setIfInBounds (off + j) c) cs) := by
 have e : xs.zipIdx.foldl (fun cs (c, j) => cs.setIfInBounds (off + j) c) cs = (xs.toList.zipIdx 0).foldl (fun cs (x : Value × Nat) => cs.setIfInBounds (off + x.2) x.1) cs := by
  rw [<- Array.foldl_toList, Array.toList_zipIdx]
 rw [e]
 have hxl : xs.toList.length = q.length := by simpa using hq.1
 refine ⟨by rw [foldl_set_size, h.1]; simp; omega, fun j p hj => ?_⟩
 rw [splice_get cells q off j hle] at hj
 rw [foldl_set_get off xs.toList 0 cs j (by rw [hxl, h.1]; omega)]
 rw [hxl]
 simp only [Nat.add_zero, Nat.sub_zero]
 split at hj
 ·rename_i hc
  rw [if_pos hc]
  have := hq.2 _ p hj
  simpa using this
 ·rename_i hc
  rw [if_neg hc]
  exact h.2 j p hj
theorem FR.ofA {w : World} {G : Nat -> Prop} {m : Nm} {l : List PV} {cs : Array Value} (h : AR w G l cs) : FR w G m (l.map .p) cs := by
 refine ⟨by simpa using h.1, fun j c hj => ?_⟩
 rw [List.getElem?_map] at hj
 cases hl : l[j]? with
 | none => rw [hl] at hj; simp at hj
 | some p =>
  rw [hl] at hj
  simp only [Option.map_some, Option.some.injEq] at hj
  subst hj
  obtain ⟨h1, u, h2, h3⟩ := h.2 j p hl
  exact ⟨u, h2, h3.oneCell h1, h3⟩
def fillF (place : Nat -> Option (Nat × Nat)) : List Fc -> List (Nat × List Fc) -> Option (List Fc)
 | cells, [] => some cells
 | cells, (i, q) :: rest => match place i with
  | none => none
  | some (off, size) => if q.length = size /\ off + q.length <= cells.length then fillF place (cells.take off ++ q ++ cells.drop (off + q.length)) rest else none
inductive QR (w : World) (G : Nat -> Prop) (m : Nm) : List (Nat × List Fc) -> List (Nat × Value) -> Prop
 | nil : QR w G m [] []
 | cons (i : Nat) (q : List Fc) (x : Value) (l : List (Nat × List Fc)) (r : List (Nat × Value)) (h : FR w G m q x.cells) (t : QR w G m l r) : QR w G m ((i, q) :: l) ((i, x) :: r)
theorem fillF_run [Glob] {w : World} {G : Nat -> Prop} {m : Nm} (place : Nat -> Option (Nat × Nat)) : ∀ {parts : List (Nat × List Fc)} {xs : List (Nat × Value)}, QR w G m parts xs -> ∀ {cells : List Fc} {cs : Array Value} {r : List Fc},
 FR w G m cells cs -> fillF place cells parts = some r -> ∃ rs, Instr.fill place cs xs = some rs /\ FR w G m r rs := by
 intro parts xs h
 induction h with
 | nil => intro cells cs r ha hf; simp [fillF] at hf; subst hf; exact ⟨cs, rfl, ha⟩
 | cons i q x l xs hq ht ih =>
  intro cells cs r ha hf
  simp only [fillF] at hf
  simp only [Instr.fill]
  cases hp : place i with
  | none => rw [hp] at hf; simp at hf
  | some os =>
   obtain ⟨off, size⟩ := os
   rw [hp] at hf
   simp only at hf ⊢
   split at hf
   ·rename_i hc
    have hs : x.cells.size = size := by rw [hq.1]; exact hc.1
    rw [if_neg (by simp only [Bool.or_eq_true, decide_eq_true_eq]; rw [hs, ha.1]; omega)]
    exact ih (ha.splice hq off hc.2) hf
   ·simp at hf
def partF (st : St) (v : V) : Option (List Fc) := match toP v with
 | some p => some ((flatP p).map .p)
 | none => match v with
  | .row b => match st.b b with
   | some (.row _ _ _) => some [.row b]
   | some (.mp _ _) => some [.row b]
   | _ => none
  | .ag l => some l
  | _ => none
def evPartsF [Glob] (T : TypeId -> Option Ty) (st : St) (ty : Nat -> TypeId) : List (Nat × Operand) -> Option (List (Nat × List Fc))
 | [] => some []
 | (i, x) :: r => match partF st (fix T (ty i) (evO st x)), evPartsF T st ty r with
  | some p, some l => some ((i, p) :: l)
  | _, _ => none
def bld [Glob] (T : TypeId -> Option Ty) (st : St) (t : TypeId) (parts : List (Nat × Operand)) : Option V :=
 match T t with
 | none => none
 | some y => match y.kd with
  | .struct fs => match placesT T fs, toPs y.zero with
   | some pl, some z => match evParts T st (fun i => ((fs[i]?).map (·.2)).getD 0) parts with
    | some ps => (fillP (fun i => pl[i]?) z ps).map (fun l => .p (.agg l))
    | none => match evPartsF T st (fun i => ((fs[i]?).map (·.2)).getD 0) parts with
     | some ps => match toFs y.zero with
      | some zf => (fillF (fun i => pl[i]?) zf ps).map .ag
      | none => none
     | none => none
   | _, _ => none
  | _ => none
def allLen (c : Nat) : List PV -> Bool
 | [] => true
 | p :: l => (flatP p).length == c && allLen c l
def bldS [Glob] (T : TypeId -> Option Ty) (st : St) (t : TypeId) (n : Nat) (parts : List (Nat × Operand)) : Option V :=
 match T t with
 | none => none
 | some y => match y.kd with
  | .slice e => match T e with
   | none => none
   | some z => match evParts T st (fun _ => e) parts with
    | none => none
    | some ps => if 0 < z.size /\ ps.map (·.1) = List.range n /\ n * z.size <= 16777216 /\ allLen z.size (ps.map (·.2)) = true then some (.full z.size (ps.map (fun x => flatP x.2))) else none
  | _ => none
section
variable {P : Program} {T : TypeId -> Option Ty} {w0 : World} {m0 : Nm} {F X : Nat -> Prop} {N : Nat} {st : St} {a : Act} {w : World} {m : Nm}
theorem evParts_run [Glob] (h : Rel w0 m0 F X N st a w m) (ty : Nat -> TypeId) : ∀ {l : List (Nat × Operand)} {ps : List (Nat × PV)}, evParts T st ty l = some ps →
 PR w (Gd F m st.b) ps (l.map fun x => (x.1, a.eval x.2))
 | [], ps, hp => by simp [evParts] at hp; subst hp; exact .nil
 | (i, x) :: r, ps, hp => by
  simp only [evParts] at hp
  split at hp
  ·rename_i p l hx hl
   simp only [Option.some.injEq] at hp
   subst hp
   exact .cons i p _ l _ (((h.evO x).fix T (ty i)).toP hx) (evParts_run h ty hl)
  ·simp at hp
theorem partF_run [Glob] (h : Rel w0 m0 F X N st a w m) {v : V} {q : List Fc} (hq : partF st v = some q) {x : Value} (hx : RV w (Gd F m st.b) m v x) : FR w (Gd F m st.b) m q x.cells := by
 unfold partF at hq
 cases hp : toP v with
 | some p =>
  rw [hp] at hq
  simp only [Option.some.injEq] at hq
  subst hq
  exact FR.ofA (RP.flat (RV.toP hx hp))
 | none =>
  rw [hp] at hq
  cases v with
  | row b =>
   simp only at hq
   cases hb : st.b b with
   | none => rw [hb] at hq; simp at hq
   | some blk =>
    rw [hb] at hq
    cases blk with
    | box e cells => simp at hq
    | mp ks l =>
     simp only [Option.some.injEq] at hq
     subst hq
     have hx' : x = m.r b := hx
     obtain ⟨blk, es, clock, hs, -⟩ := h.blks b _ hb
     refine ⟨by rw [hx', hs]; rfl, fun j c hj => ?_⟩
     cases j with
     | zero =>
      simp at hj
      subst hj
      exact ⟨x, by rw [hx', hs]; rfl, by rw [hx', hs]; rfl, hx'⟩
     | succ j => simp at hj
    | row e c l =>
     simp only [Option.some.injEq] at hq
     subst hq
     have hx' : x = m.r b := hx
     obtain ⟨a', n', c', hs⟩ : ∃ a' n' c', m.r b = .slice a' n' c' := by
      rcases h.blks b _ hb with ⟨-, ⟨a', ha⟩, -⟩ | ⟨k, cap, cur, hr, -⟩
      ·exact ⟨_, _, _, ha⟩
      ·exact ⟨_, _, _, hr⟩
     refine ⟨by rw [hx', hs]; rfl, fun j c hj => ?_⟩
     cases j with
     | zero =>
      simp at hj
      subst hj
      exact ⟨x, by rw [hx', hs]; rfl, by rw [hx', hs]; rfl, hx'⟩
     | succ j => simp at hj
  | ag l =>
   simp only [Option.some.injEq] at hq
   subst hq
   obtain ⟨cs, rfl, hs, hc⟩ := (show RV0 w (Gd F m st.b) m (.ag l) x from hx)
   exact ⟨hs, hc⟩
  | _ => simp at hq
theorem evPartsF_run [Glob] (h : Rel w0 m0 F X N st a w m) (ty : Nat -> TypeId) : ∀ {l : List (Nat × Operand)} {ps : List (Nat × List Fc)}, evPartsF T st ty l = some ps →
 QR w (Gd F m st.b) m ps (l.map fun x => (x.1, a.eval x.2))
 | [], ps, hp => by simp [evPartsF] at hp; subst hp; exact .nil
 | (i, x) :: r, ps, hp => by
  simp only [evPartsF] at hp
  split at hp
  ·rename_i p l hx hl
   simp only [Option.some.injEq] at hp
   subst hp
   exact .cons i p _ l _ (partF_run h hx ((h.evO x).fix T (ty i))) (evPartsF_run h ty hl)
  ·simp at hp
theorem bld_run [Glob] (hT : TabOK P T) (h : Rel w0 m0 F X N st a w m) {t : TypeId} {parts : Array (Nat × Operand)} {v : V} (hv : bld T st t parts.toList = some v) :
 ∃ x, (Instr.build t (parts.map fun (i, x) => (i, a.eval x))).run P w = .ok x w /\ RV w (Gd F m st.b) m v x := by
 unfold bld at hv
 split at hv
 ·simp at hv
 rename_i y hy
 split at hv
 ·rename_i fs hkd
  split at hv
  ·rename_i pl z hpl hz
   split at hv
   rotate_left
   ·split at hv
    ·rename_i ps hps
     split at hv
     rotate_left
     ·simp at hv
     rename_i zf hzf
     simp only [Option.map_eq_some_iff] at hv
     obtain ⟨l, hl, rfl⟩ := hv
     have hk := (hT t y hy).kind
     simp only [hkd] at hk
     obtain ⟨f, hf1, hf2⟩ := hk
     obtain ⟨i, zv, hi, hs, hzv, hza⟩ := zero_FR (hT t y hy) hzf w (Gd F m st.b) m
     have hpr := evPartsF_run h _ hps
     obtain ⟨rs, hrs, har⟩ := fillF_run (m := m) (fun i => pl[i]?) hpr hza hl
     have hpl' := placesT_run hT hpl hf2
     have hb : P.built t (parts.map fun (i, x) => (i, a.eval x)).toList = some rs := by
      unfold Program.built
      simp only [hi, hf1, hzv, hpl']
      have e : (parts.map fun (i, x) => (i, a.eval x)).toList = parts.toList.map fun x => (x.1, a.eval x.2) := by simp
      rw [e, <- hrs]
      congr 1
      funext i
      simp
     exact ⟨_, run_build w t _ rs hb, .of0 (v := .ag _) ⟨rs, rfl, har.1, har.2⟩⟩
    ·simp at hv
   rename_i ps hps
   simp only [Option.map_eq_some_iff] at hv
   obtain ⟨l, hl, rfl⟩ := hv
   have hk := (hT t y hy).kind
   simp only [hkd] at hk
   obtain ⟨f, hf1, hf2⟩ := hk
   obtain ⟨i, zv, hi, hs, hzv, hza, -⟩ := zero_AR (hT t y hy) hz w (Gd F m st.b)
   have hpr := evParts_run h _ hps
   obtain ⟨rs, hrs, har⟩ := fill_run (fun i => pl[i]?) hpr hza hl
   have hpl' := placesT_run hT hpl hf2
   have hb : P.built t (parts.map fun (i, x) => (i, a.eval x)).toList = some rs := by
    unfold Program.built
    simp only [hi, hf1, hzv, hpl']
    have e : (parts.map fun (i, x) => (i, a.eval x)).toList = parts.toList.map fun x => (x.1, a.eval x.2) := by simp
    rw [e, <- hrs]
    congr 1
    funext i
    simp
   exact ⟨_, run_build w t _ rs hb, .of0 (v := .p _) har.agg⟩
  ·simp at hv
 ·simp at hv
theorem allLen_spec {c : Nat} : ∀ {l : List PV}, allLen c l = true -> ∀ p ∈ l, (flatP p).length = c
 | [], _, p, hp => by simp at hp
 | q :: l, h, p, hp => by
  simp only [allLen, Bool.and_eq_true, beq_iff_eq] at h
  rcases List.mem_cons.1 hp with rfl | hp
  ·exact h.1
  ·exact allLen_spec h.2 p hp
theorem PR.get {G : Nat -> Prop} : ∀ {ps : List (Nat × PV)} {xs : List (Nat × Value)}, PR w G ps xs -> xs.map (·.1) = ps.map (·.1) /\ xs.length = ps.length ∧
 ∀ (j : Nat) (q : Nat × PV), ps[j]? = some q -> ∃ x, xs[j]? = some (q.1, x) /\ RP w G q.2 x := by
 intro ps xs h
 induction h with
 | nil => exact ⟨rfl, rfl, fun j q hj => by simp at hj⟩
 | cons i q x l r hq ht ih =>
  obtain ⟨h1, h2, h3⟩ := ih
  refine ⟨by simp [h1], by simp [h2], fun j q' hj => ?_⟩
  cases j with
  | zero => simp at hj; subst hj; exact ⟨x, rfl, hq⟩
  | succ j => simpa using h3 j q' (by simpa using hj)
theorem Keeps.alloc (w : World) (o : Obj) : Keeps (fun _ => False) w (w.alloc o) :=
 ⟨rfl, rfl, rfl, by simp, fun k hk _ => Go.RowKit.Below.heap_alloc w o k hk⟩
theorem bldS_key {parts : Array (Nat × Operand)} {a : Act} {ps : List (Nat × PV)} {c : Nat} (hsz : 0 < c) (hsize : ∀ v ∈ (parts.toList.map fun x => a.eval x.2), v.cells.size = c) {G : Nat -> Prop}
 (hall' : ∀ q ∈ ps.map (·.2), (flatP q).length = c) (hp3 : ∀ (i : Nat) (q : Nat × PV), ps[i]? = some q -> ∃ x, (parts.toList.map fun x => (x.1, a.eval x.2))[i]? = some (q.1, x) /\ RP w G q.2 x)
 {i : Nat} {el : List PV} {j : Nat} {p : PV} (hi' : (ps.map fun x => flatP x.2)[i]? = some el) (hj : el[j]? = some p) : p.one = true /\ ∃ u, ((parts.toList.map fun x => a.eval x.2).flatMap fun v => v.cells.toList)[i * c + j]? = some u /\ RP w G p u := by
 rw [List.getElem?_map] at hi'
 cases hpi : ps[i]? with
 | none => rw [hpi] at hi'; simp at hi'
 | some q =>
  rw [hpi] at hi'
  simp only [Option.map_some, Option.some.injEq] at hi'
  subst hi'
  obtain ⟨x, hx, hr⟩ := hp3 i q hpi
  obtain ⟨h1, u, h2, h3⟩ := hr.flat.2 j p hj
  have hjl : j < c := by
   have := (List.getElem?_eq_some_iff.1 hj).1
   rw [hall' q.2 (List.mem_map.2 ⟨q, List.mem_of_getElem? hpi, rfl⟩)] at this
   exact this
  refine ⟨h1, u, ?_, h3⟩
  rw [flat_get hsz _ hsize]
  have e2 : (i * c + j) / c = i := by
   rw [Nat.mul_comm, Nat.mul_add_div hsz, Nat.div_eq_of_lt hjl, Nat.add_zero]
  have e3 : (i * c + j) % c = j := by
   rw [Nat.mul_comm, Nat.mul_add_mod, Nat.mod_eq_of_lt hjl]
  rw [e2, e3, List.getElem?_map]
  rw [List.getElem?_map] at hx
  cases hq : parts.toList[i]? with
  | none => rw [hq] at hx; simp at hx
  | some q' =>
   rw [hq] at hx
   simp only [Option.map_some, Option.some.injEq, Prod.mk.injEq] at hx ⊢
   simp only [hx.2]
   simpa using h2
theorem bldS_run [Glob] (hT : TabOK P T) (h : Rel w0 m0 F X N st a w m) {t : TypeId} {n : Nat} {parts : Array (Nat × Operand)} {v : V} (hv : bldS T st t n parts.toList = some v) :
 ∃ x w', (Instr.buildSlice t n (parts.map fun (i, x) => (i, a.eval x))).run P w = .ok x w' /\ Keeps (fun _ => False) w w' /\ RV w' (Gd F m st.b) m v x ∧
  ∀ c l, v = .full c l -> ∃ y e cs, T t = some y /\ y.kd = .slice e /\ x = .slice (some ⟨w.heap.size, 0, none⟩) l.length l.length /\ l.length = n /\ w' = w.alloc (.cells cs e) /\ cs.size = n * c /\ n * c <= 16777216 /\ 0 < c ∧
   ∀ (i : Nat) (el : List PV), l[i]? = some el -> el.length = c /\ ∀ (j : Nat) (p : PV), el[j]? = some p -> p.one = true /\ ∃ u, cs[i * c + j]? = some u /\ RP w (Gd F m st.b) p u := by
 unfold bldS at hv
 split at hv
 ·simp at hv
 rename_i y hy
 split at hv
 ·rename_i e hkd
  split at hv
  ·simp at hv
  rename_i z hz
  split at hv
  ·simp at hv
  rename_i ps hps
  split at hv
  ·rename_i hc
   obtain ⟨hsz, hrange, hlim, hall⟩ := hc
   simp only [Option.some.injEq] at hv
   subst hv
   have hk := (hT t y hy).kind
   simp only [hkd] at hk
   have hpr := evParts_run h _ hps
   obtain ⟨i, zv, hi, hs, hby, hzv, -⟩ := (hT e z hz).info
   have hpl : ps.length = n := by have := congrArg List.length hrange; simpa using this
   have hall' := allLen_spec hall
   obtain ⟨hp1, hp2, hp3⟩ := hpr.get
   have hxs : (parts.toList.map fun x => (x.1, a.eval x.2)) = ((parts.toList.map fun x => a.eval x.2).zipIdx 0).map fun x => (x.2, x.1) := by
    apply List.ext_getElem?
    intro j
    rw [List.getElem?_map, List.getElem?_map, List.getElem?_zipIdx, List.getElem?_map]
    have e1 := congrArg (fun l : List Nat => l[j]?) (hp1.trans hrange)
    simp only [List.map_map, List.getElem?_map] at e1
    cases hj : parts.toList[j]? with
    | none => rfl
    | some q =>
     rw [hj] at e1
     simp only [Option.map_some, Function.comp] at e1
     have hjn : j < n := by
      have := (List.getElem?_eq_some_iff.1 hj).1
      simp at hp2 this; omega
     rw [List.getElem?_range hjn] at e1
     simp only [Option.some.injEq] at e1
     simp [e1]
   have hvl : (parts.toList.map fun x => a.eval x.2).length = n := by simp at hp2 ⊢; omega
   have hsize : ∀ v ∈ (parts.toList.map fun x => a.eval x.2), v.cells.size = z.size := fun v hv => by
    obtain ⟨j, hj, hjv⟩ := List.getElem_of_mem hv
    have hj' : j < ps.length := by rw [hpl, <- hvl]; exact hj
    obtain ⟨x, hx, hr⟩ := hp3 j ps[j] (List.getElem?_eq_getElem hj')
    have hx2 : a.eval (parts.toList[j]'(by simpa using hj)).2 = x := by
     rw [List.getElem?_map, List.getElem?_eq_getElem (by simpa using hj)] at hx
     simp only [Option.map_some, Option.some.injEq, Prod.mk.injEq] at hx
     exact hx.2
    have : v = x := by rw [<- hjv, <- hx2]; simp
    rw [this, hr.flat.1]
    exact hall' _ (List.mem_map.2 ⟨ps[j], List.getElem_mem hj', rfl⟩)
   have hfill := fill_whole hsz (parts.toList.map fun x => a.eval x.2)
    (if n * z.size = 0 then #[] else (Array.range (n * z.size)).map (zv.cells[· % zv.cells.size]!)) hsize (by
     rw [hvl]
     split
     ·rename_i h0; rw [h0]; rfl
     ·simp)
   refine ⟨.slice (some ⟨w.heap.size, 0, none⟩) n n, w.alloc (.cells ((parts.toList.map fun x => a.eval x.2).flatMap fun v => v.cells.toList).toArray e), ?_, Keeps.alloc w _, ?_⟩
   ·have e1 : (parts.map fun (i, x) => (i, a.eval x)).toList = parts.toList.map fun x => (x.1, a.eval x.2) := by simp
    unfold Instr.buildSlice
    rw [e1, hxs]
    generalize (List.map (fun x : Value × Nat => (x.2, x.1)) (List.zipIdx (List.map (fun x : Nat × Operand => a.eval x.2) parts.toList) 0)) = zs at hfill ⊢
    generalize (List.flatMap (fun v => v.cells.toList) (List.map (fun x : Nat × Operand => a.eval x.2) parts.toList)).toArray = fl at hfill ⊢
    by_cases h0 : n * z.size = 0
    ·have hn0 : n = 0 := by
      rcases Nat.mul_eq_zero.1 h0 with h1 | h1
      ·exact h1
      ·omega
     rw [if_pos h0] at hfill
     subst hn0
     have e2 : ∀ f : Nat -> Value, Array.map f (Array.range 0) = #[] := fun f => by simp
     simp [run_underlying hk, (hT e z hz).run_info, e2, hfill, newRow]
    ·rw [if_neg h0] at hfill
     have hlim' : ¬ n * z.size > 16777216 := by omega
     simp [run_underlying hk, (hT e z hz).run_info, h0, hlim', zeroValue, typeInfo, hi, hzv, newRow, hfill]
   ·refine ⟨RV.of0 (v := .full _ _) ⟨?_, _, by simp [hpl]; rfl⟩, ?_⟩
    rotate_left
    ·intro c l hcl
     simp only [V.full.injEq] at hcl
     obtain ⟨rfl, rfl⟩ := hcl
     refine ⟨y, e, _, hy, hkd, by simp [hpl], by simp [hpl], rfl, ?_, hlim, hsz, fun i el hi' => ⟨?_, fun j p hj => ?_⟩⟩
     ·have : ∀ l : List Value, (∀ v ∈ l, v.cells.size = z.size) -> (l.flatMap fun v => v.cells.toList).length = l.length * z.size := by
       intro l hl
       induction l with
       | nil => simp
       | cons v l ih =>
        rw [List.flatMap_cons, List.length_append, ih fun v hv => hl v (List.mem_cons_of_mem _ hv), List.length_cons, Nat.add_mul]
        have := hl v (List.mem_cons_self ..)
        simp only [Array.length_toList, this]; omega
      simp only [List.size_toArray]
      rw [this _ hsize, hvl]
     ·rw [List.getElem?_map] at hi'
      cases hpi : ps[i]? with
      | none => rw [hpi] at hi'; simp at hi'
      | some q =>
       rw [hpi] at hi'
       simp only [Option.map_some, Option.some.injEq] at hi'
       rw [<- hi']
       exact hall' q.2 (List.mem_map.2 ⟨q, List.mem_of_getElem? hpi, rfl⟩)
     ·have hkey := bldS_key hsz hsize hall' hp3 hi' hj
      simpa using hkey
    have hgw : (w.alloc (.cells ((parts.toList.map fun x => a.eval x.2).flatMap fun v => v.cells.toList).toArray e)).heap[w.heap.size]? = some (.cells ((parts.toList.map fun x => a.eval x.2).flatMap fun v => v.cells.toList).toArray e (0, 0)) := heap_alloc_new w _
    have key : ∀ (i : Nat) (el : List PV) (j : Nat) (p : PV), (ps.map fun x => flatP x.2)[i]? = some el -> el[j]? = some p -> p.one = true /\ ∃ u, ((parts.toList.map fun x => a.eval x.2).flatMap fun v => v.cells.toList)[i * z.size + j]? = some u /\ RP w (Gd F m st.b) p u := fun i el j p hi' hj => by
     rw [List.getElem?_map] at hi'
     cases hpi : ps[i]? with
     | none => rw [hpi] at hi'; simp at hi'
     | some q =>
      rw [hpi] at hi'
      simp only [Option.map_some, Option.some.injEq] at hi'
      subst hi'
      obtain ⟨x, hx, hr⟩ := hp3 i q hpi
      obtain ⟨h1, u, h2, h3⟩ := hr.flat.2 j p hj
      have hjl : j < z.size := by
       have := (List.getElem?_eq_some_iff.1 hj).1
       rw [hall' q.2 (List.mem_map.2 ⟨q, List.mem_of_getElem? hpi, rfl⟩)] at this
       exact this
      refine ⟨h1, u, ?_, h3⟩
      rw [flat_get hsz _ hsize]
      have e2 : (i * z.size + j) / z.size = i := by
       rw [Nat.mul_comm, Nat.mul_add_div hsz, Nat.div_eq_of_lt hjl, Nat.add_zero]
      have e3 : (i * z.size + j) % z.size = j := by
       rw [Nat.mul_comm, Nat.mul_add_mod, Nat.mod_eq_of_lt hjl]
      rw [e2, e3, List.getElem?_map]
      rw [List.getElem?_map] at hx
      cases hq : parts.toList[i]? with
      | none => rw [hq] at hx; simp at hx
      | some q' =>
       rw [hq] at hx
       simp only [Option.map_some, Option.some.injEq, Prod.mk.injEq] at hx ⊢
       simp only [hx.2]
       simpa using h2
    have hk' : ∀ (i : Nat) (el : List PV) (j : Nat) (p : PV), (ps.map fun x => flatP x.2)[i]? = some el -> el[j]? = some p →
     (w.alloc (.cells ((parts.toList.map fun x => a.eval x.2).flatMap fun v => v.cells.toList).toArray e)).cell? ⟨w.heap.size, 0 + (i * z.size + j), none⟩ = some (((parts.toList.map fun x => a.eval x.2).flatMap fun v => v.cells.toList).getD (i * z.size + j) undef) ∧
     RP w (Gd F m st.b) p (((parts.toList.map fun x => a.eval x.2).flatMap fun v => v.cells.toList).getD (i * z.size + j) undef) := fun i el j p hi' hj => by
     obtain ⟨-, u, h2, h3⟩ := key i el j p hi' hj
     rw [List.getD_eq_getElem?_getD, h2]
     refine ⟨?_, h3⟩
     simp only [World.cell?, hgw, Option.isSome_none, Nat.zero_add]
     simpa using h2
    have hlen : (ps.map fun x => flatP x.2).length = n := by simpa using hpl
    have := RP.sl (w := w.alloc (.cells ((parts.toList.map fun x => a.eval x.2).flatMap fun v => v.cells.toList).toArray e)) (G := Gd F m st.b) z.size (ps.map fun x => flatP x.2) w.heap.size 0 n
     (fun i j => ((parts.toList.map fun x => a.eval x.2).flatMap fun v => v.cells.toList).getD (i * z.size + j) undef) (by omega) (by
      have : n <= n * z.size := Nat.le_mul_of_pos_right n hsz
      unfold maxLen; omega) (fun _ => ⟨by simp, fun hg => ?_⟩) (fun i el hi' => ?_) (fun i el j p hi' hj => (key i el j p hi' hj).1) (fun i el j p hi' hj => (hk' i el j p hi' hj).1)
     (fun i el j p hi' hj => ((hk' i el j p hi' hj).2).move (Keeps.alloc w _).size (fun k hk _ => (Keeps.alloc w _).block k hk id) (fun _ _ hg => hg))
    ·rw [hlen] at this; exact this
    ·rcases hg with hf | ⟨b, hb⟩
     ·have := h.fold _ hf; have := h.keeps.size; omega
     ·have := (h.own b _ hb).2.1; omega
    ·rw [List.getElem?_map] at hi'
     cases hpi : ps[i]? with
     | none => rw [hpi] at hi'; simp at hi'
     | some q =>
      rw [hpi] at hi'
      simp only [Option.map_some, Option.some.injEq] at hi'
      rw [<- hi']
      exact hall' q.2 (List.mem_map.2 ⟨q, List.mem_of_getElem? hpi, rfl⟩)
  ·simp at hv
 ·simp at hv
end
end Go.Av
