/- Texts that the proof needs: AvWp. -/
import Derived.Test.YthiccfadhllajaaP8JudgePrimary
namespace Go.Av
set_option linter.unusedSimpArgs false
set_option linter.unusedVariables false
open Go
def dstOK (N : Nat) : Option Nat -> Prop
 | none => True
 | some d => dOK N d
def wantedA (ops : Array Oper) (st : St) (o : Oper) : Option Bool :=
 match o.guard with
 | none => some true
 | some (j, want) => match (ops[j]?).bind (·.dst) with
  | none => none
  | some d => match st.s d with
   | .p (.v (.bool b)) => some (b == want)
   | .tup [] => some false
   | _ => none
def evMake (T : TypeId -> Option Ty) (st : St) (t : TypeId) (n c : V) (d : Nat) : Option St :=
 match T t with
 | none => none
 | some y => match y.kd with
  | .slice e => match T e with
   | none => none
   | some z => match n, c, toPs z.zero with
    | .p (.v (.int _ n)), .p (.v (.int _ c)), some zs =>
     if 0 <= n /\ n <= c /\ (z.bytes : Int) * c <= 281474976710656 /\ c <= 9223372036854775807 /\ 0 < z.size then some (crt st d d (.row e z.size (List.replicate n.toNat zs)) (.row d)) else none
    | _, _, _ => none
  | _ => none
def AppE (T : TypeId -> Option Ty) (st : St) (d : Nat) (e : TypeId) (s x : V) (K : St -> Prop) : Prop :=
 match T e with
 | none => False
 | some z => 0 < z.size /\ z.bytes ≠ 0 /\ match srcL st z.size x with
  | none => False
  | some l => match s with
   | .nil _ => l.length * z.bytes <= 140737488355328 /\ K (crt st d d (.row e z.size l) (.row d))
   | .row b => match st.b b with
    | some (.row e' c' l0) => e' = e /\ c' = z.size /\ (l0.length + l.length) * z.bytes <= 140737488355328 /\ K (crt st b d (.row e z.size (l0 ++ l)) (.row b))
    | _ => False
   | .full c' l0 => c' = z.size /\ (l0.length + l.length) * z.bytes <= 140737488355328 ∧
    ((l ≠ [] \/ l0 = []) /\ K (crt st d d (.row e z.size (l0 ++ l)) (.row d)) \/ K ⟨putS st.s (some d) (.p (.sl z.size (l0 ++ l))), st.b⟩)
   | _ => False
def AppK (T : TypeId -> Option Ty) (st : St) (d : Nat) (ts : List TypeId) (as : List V) (K : St -> Prop) : Prop :=
 match ts, as with
 | [t, tx], [s, x] => match T t, T tx with
  | some y, some yx => match y.kd, yx.kd with
   | .slice e, .slice _ => AppE T st d e s x K
   | .slice e, .str => AppE T st d e s x K
   | _, _ => False
  | _, _ => False
 | _, _ => False
def capV : Cap -> V
 | .box b => .ptr b 0
 | .val p => .p p
 | .rp e j => .rptr e j
def calleeOf : V -> Option (FuncId × List V × Bool)
 | .p (.v (.func (.func g) _ _)) => some (g, [], false)
 | .clo k cs => some (k.f, cs.map capV, k.mv)
 | _ => none
def RetB (b : Nat) (x y : V) : Prop := (x = .row 1024 /\ y = .row b) \/ ∃ p, x = .p p /\ y = .p p
def GenK (st : St) (d : Option Nat) (S : List Nat) (K : St -> Prop) (Z : Value -> St -> Prop) : Out -> Prop
 | .ret v R β => ∃ A : List Nat, A.Nodup /\ (∀ b ∈ A, b ∉ S /\ (b < 1024 \/ 2048 <= b)) /\ K ⟨putS (lv st S A R β).s d (ren (ouN S A) (ouN S A) v), (lv st S A R β).b⟩
 | .pan y β => Z y (lv st S [] [] β)
def flatL (l : List (List PV)) : Bool := l.all fun e => e.all fun
 | .v _ => true
 | _ => false
def flatC : V -> Bool
 | .p (.v _) => true
 | _ => false
def flatBx (st : St) : List Nat -> Option (List Blk)
 | [] => some []
 | b :: l => match st.b b, flatBx st l with
  | some (.box e cells), some r => if cells.all flatC then some (.box e cells :: r) else none
  | _, _ => none
def argR (T : TypeId -> Option Ty) (st : St) (S : List Nat) (t : TypeId) : V -> Option V
 | .row b => match st.b b with
  | some (.row _ c l) => some (.p (.sl c l))
  | _ => none
 | v => argG T S t v
def argsR (T : TypeId -> Option Ty) (st : St) (S : List Nat) : List TypeId -> List V -> Option (List V)
 | _, [] => some []
 | ts, v :: r => match argR T st S (ts.headD 0) v, argsR T st S ts.tail r with
  | some x, some l => some (x :: l)
  | _, _ => none
def lendC (st : St) : List V -> Option (List PV)
 | [] => some []
 | .p p :: r => match lendC st r with
  | some l => some (p :: l)
  | none => none
 | .nil c :: r => match lendC st r with
  | some l => some (.sl c [] :: l)
  | none => none
 | .row b :: r => match st.b b, lendC st r with
  | some (.row _ c l0), some l => some (.sl c l0 :: l)
  | _, _ => none
 | _ :: _ => none
def argA (T : TypeId -> Option Ty) (st : St) (t : TypeId) : V -> Option V
 | .ptr b j => match st.b b with
  | some (.box _ cells) => match lendC st cells with
   | some es => some (.rptr es j)
   | none => none
  | _ => none
 | v => argB T st t v
def argsA (T : TypeId -> Option Ty) (st : St) : List TypeId -> List V -> Option (List V)
 | _, [] => some []
 | ts, v :: r => match argA T st (ts.headD 0) v, argsA T st ts.tail r with
  | some x, some l => some (x :: l)
  | _, _ => none
def stX (st : St) (S : List Nat) (b0 : Nat) (x : Value) : St := ⟨st.s, fun b => if b ∈ S then (st.b b).map (subB b0 (.v x)) else st.b b⟩
def reX (S : List Nat) (b0 : Nat) : V -> V
 | .row n => if n = 2047 then .row b0 else ren0 (ouN S []) (ouN S []) (.row n)
 | .ag _ => .junk
 | v => ren0 (ouN S []) (ouN S []) v
def reXB (S : List Nat) (b0 : Nat) : Blk -> Blk
 | .box e cells => .box e (cells.map (reX S b0))
 | .row e c l => .row e c l
 | .mp ks l => .mp ks l
def lvX (st : St) (S : List Nat) (b0 : Nat) (β : List Blk) : St :=
 ⟨fun t => ren (kpI []) (kpR S []) (st.s t), fun b => match pos S b with
  | some i => (β[i]?).map (reXB S b0)
  | none => (st.b b).map (renB (kpI []) (kpR S []))⟩
def CallK [Glob] (P : Program) (T : TypeId -> Option Ty) (st : St) (d : Option Nat) (g : FuncId) (ts : List TypeId) (as : List V) (K : St -> Prop) (Z : Value -> St -> Prop) : Prop :=
 (∃ us v, argsP T ts as = some us /\ ACon P g us v /\ pureV v = true /\ K ⟨putS st.s d v, st.b⟩) ∨
 (∃ us d' e c l, (argsP T ts as = some us \/ argsB T st ts as = some us /\ flatL l = true) /\ d = some d' /\ Con P g us [] (.ret (.row 2048) [.row e c l] []) /\ K (crt st d' d' (.row e c l) (.row d'))) ∨
 (∃ us v, argsB T st ts as = some us /\ ACon P g us v /\ flatR v = true /\ K ⟨putS st.s d v, st.b⟩) ∨
 (∃ us y, argsB T st ts as = some us /\ Con P g us [] (.pan y []) /\ Z y st) ∨
 (∃ S us β out, S.Nodup /\ S.length <= 1024 /\ blksOf st (inN S) S = some β /\ argsG T S ts as = some us /\ Con P g us β out /\ GenK st d S K Z out) ∨
 (∃ S us β v, S.Nodup /\ S.length <= 1024 /\ flatBx st S = some β /\ argsR T st S ts as = some us /\ Con P g us β (.ret v [] β) /\ flatR v = true /\ K ⟨putS st.s d v, st.b⟩) ∨
 (∃ b us d' e0 c0 l0 e c l, d = some d' /\ st.b b = some (.row e0 c0 l0) /\ argsG T [b] ts as = some us /\ ∃ x y, RetB b x y /\ Con P g us [.row e0 c0 l0] (.ret x [] [.row e c l]) /\ K (crt st b d' (.row e c l) y)) ∨
 (∃ b us e c l0 l1 v, st.b b = some (.row e c l0) /\ argsG T [b] ts as = some us /\ ConW P g us e c l0 l1 v /\ flatW v = true /\ K ⟨putS st.s d v, fun b' => if b' = b then some (.row e c l1) else st.b b'⟩) ∨
 (∃ us v, argsA T st ts as = some us /\ ACon P g us v /\ flatR v = true /\ K ⟨putS st.s d v, st.b⟩) ∨
 (∃ (b0 : Nat) (S : List Nat) (us : List V) (e c : Nat) (l : List (List PV)) (β : Value -> List Blk) (β3 : List Blk) (v : V), S.Nodup /\ S.length <= 1023 /\ b0 ∉ S /\ st.b b0 = some (.row e c l) /\ (∀ x, blksOf (stX st S b0 x) (inN S) S = some (β x)) /\ argsG T S ts as = some us ∧
  (∀ x, scal x = true -> Con P g us (β x) (.ret v [] (β3.map (subB 2047 (.v x))))) /\ flatR v = true /\ K ⟨putS (lvX st S b0 β3).s d v, (lvX st S b0 β3).b⟩)
def slL (st : St) : V -> Option (Option (List (List PV)))
 | .nil _ => some none
 | .p (.sl _ l) => some (some l)
 | .full _ l => some (some l)
 | .row b => match st.b b with
  | some (.row _ _ l) => some (some l)
  | _ => none
 | _ => none
def nilK (T : TypeId -> Option Ty) (st : St) (d : Option Nat) (op : BinOp) (t : TypeId) (x : V) (K : St -> Prop) : Prop :=
 match T t with
 | some y => match y.kd with
  | .slice _ => match op with
   | .eql => match slL st x with
    | some none => K ⟨putS st.s d (.p (.v (.bool true))), st.b⟩
    | some (some l) => ∀ nl : Bool, (nl = true -> l = []) -> K ⟨putS st.s d (.p (.v (.bool nl))), st.b⟩
    | none => False
   | .neq => match slL st x with
    | some none => K ⟨putS st.s d (.p (.v (.bool false))), st.b⟩
    | some (some l) => ∀ nl : Bool, (nl = true -> l = []) -> K ⟨putS st.s d (.p (.v (.bool !nl))), st.b⟩
    | none => False
   | _ => False
  | _ => False
 | none => False
def ClrK (T : TypeId -> Option Ty) (st : St) (ts : List TypeId) (as : List V) (K : St -> Prop) : Prop :=
 match ts, as with
 | [t], [.suf b c i] => match T t with
  | some y => match y.kd with
   | .slice e => match T e, st.b b with
    | some z, some (.row e' c' l) => match toPs z.zero with
     | some zs => c' = c /\ c = z.size /\ i < l.length /\ 0 < z.size /\ K ⟨st.s, fun b' => if b' = b then some (.row e' c' (l.take i ++ List.replicate (l.length - i) zs)) else st.b b'⟩
     | none => False
    | _, _ => False
   | _ => False
  | none => False
 | _, _ => False
def dstC (c : Nat) : V -> Option (Nat × Nat × Nat)
 | .row b => some (b, c, 0)
 | .suf b c i => some (b, c, i)
 | _ => none
def CpyK (T : TypeId -> Option Ty) (st : St) (d : Option Nat) (ts : List TypeId) (as : List V) (K : St -> Prop) : Prop :=
 match ts, as with
 | [t, _], [x, s] => match T t with
  | some y => match y.kd with
   | .slice e => match T e with
    | some z => match srcL st z.size s, dstC z.size x with
     | some l2, some (b, c, i) => match st.b b with
      | some (.row e' c' l) => c' = c /\ c = z.size /\ 0 < z.size /\ i + l2.length <= l.length ∧
       K ⟨putS st.s d (.p (.v (.int .i64 l2.length))), fun b' => if b' = b then some (.row e' c' (l.take i ++ l2 ++ l.drop (i + l2.length))) else st.b b'⟩
      | _ => False
     | _, _ => False
    | none => False
   | _ => False
  | none => False
 | _, _ => False
def CutK (T : TypeId -> Option Ty) (st : St) (t : TypeId) (b d : Nat) (hi : V) (K : St -> Prop) : Prop :=
 match T t with
 | some y => match y.kd with
  | .slice e => match T e, st.b b, hi with
   | some z, some (.row e' c l), .p (.v (.int _ i)) => 0 <= i /\ i.toNat <= l.length /\ c = z.size /\ K (crt st b d (.row e' c (l.take i.toNat)) (.row b))
   | _, _, _ => False
  | _ => False
 | none => False
def MkK (T : TypeId -> Option Ty) (st : St) (t : TypeId) (d : Nat) (K : St -> Prop) : Prop :=
 match T t with
 | some y => match y.kd with
  | .map _ _ ks => K (crt st d d (.mp ks []) (.row d))
  | _ => False
 | none => False
def stepA [Glob] (P : Program) (T : TypeId -> Option Ty) (N : Nat) (st : St) (o : Oper) (K : St -> Prop) (Z : Value -> St -> Prop) : Prop :=
 match o.op with
 | .alloc t => match o.dst with
  | none => False
  | some d => dOK N d /\ match evAlloc T st t d with
   | some st' => K st'
   | none => False
 | .box t x => match o.dst with
  | none => False
  | some d => dOK N d /\ match evBox T st t d (evO st x) with
   | some st' => K st'
   | none => False
 | .makeSlice t n c => match o.dst with
  | none => False
  | some d => dOK N d /\ match evMake T st t (evO st n) (evO st c) d with
   | some st' => K st'
   | none => False
 | .store t p x => match o.dst with
  | some _ => False
  | none => match evStore T st t (evO st p) (evO st x) with
   | some st' => K st'
   | none => False
 | .call { callee := .builtin .append, args := as, argTypes := ts } => match o.dst with
  | none => False
  | some d => dOK N d /\ AppK T st d ts.toList (as.toList.map (evO st)) K
 | .call { callee := .value f, args := as, argTypes := ts } => match calleeOf (evO st f) with
  | some (g, cs, mv) => dstOK N o.dst /\ CallK P T st o.dst g (catT mv cs ts.toList) (cat mv (as.toList.map (evO st)) cs) K Z
  | none => False
 | .panic x => match evO st x with
  | .p (.v (.iface t y)) => Z (.iface t y) st
  | _ => False
 | .binOp op t x (.const (.slice none 0 0)) _ => dstOK N o.dst /\ nilK T st o.dst op t (evO st x) K
 | .call { callee := .builtin .clear, args := as, argTypes := ts } => match o.dst with
  | none => ClrK T st ts.toList (as.toList.map (evO st)) K
  | some _ => False
 | .call { callee := .builtin .copy, args := as, argTypes := ts } => dstOK N o.dst /\ CpyK T st o.dst ts.toList (as.toList.map (evO st)) K
 | .slice t x none (some hi) none => match evO st x with
  | .row b => match o.dst with
   | some d => dOK N d /\ CutK T st t b d (evO st hi) K
   | none => False
  | _ => dstOK N o.dst /\ match evV T st o with
   | some v => K ⟨putS st.s o.dst v, st.b⟩
   | none => False
 | .makeMap t none => match o.dst with
  | some d => dOK N d /\ MkK T st t d K
  | none => False
 | .mapUpdate t m k x => match o.dst with
  | none => MapK T st t (evO st m) (evO st k) (evO st x) K
  | some _ => False
 | .insert t m k x => match o.dst with
  | none => MapK T st t (evO st m) (evO st k) (evO st x) K
  | some _ => False
 | _ => dstOK N o.dst /\ match evV T st o with
  | some v => K ⟨putS st.s o.dst v, st.b⟩
  | none => False
def Lit1 [Glob] (T : TypeId -> Option Ty) (N : Nat) (st : St) (op : Op) (dst : Option Nat) (K : St -> Prop) : Prop :=
 match op, dst with
 | .buildSlice t n parts, some d => dOK N d /\ 0 < n /\ match T t with
  | some y => match y.kd with
   | .slice e => match bldS T st t n parts.toList with
    | some (.full c l) => K (crt st d d (.row e c l) (.row d))
    | _ => False
   | _ => False
  | none => False
 | .convert s t x, some d => dOK N d /\ s = t /\ match evO st x with
  | .row b => match st.b b, T s with
   | some (.row e c l), some y => match y.kd, T e with
    | .slice e', some z => e' = e /\ z.kd = .int .u8 /\ l ≠ [] /\ flatL l = true /\ K ⟨putS (fun t => scr b (st.s t)) (some d) (.p (.sl c l)), fun b' => if b' = b then none else (st.b b').map (scrB b)⟩
    | _, _ => False
   | _, _ => False
  | _ => False
 | _, _ => False
def awpOps [Glob] (P : Program) (T : TypeId -> Option Ty) (N : Nat) (ops : Array Oper) : List Oper -> St -> (St -> Prop) -> (Value -> St -> Prop) -> Prop
 | [], st, K, _ => K st
 | o :: rest, st, K, Z => ∃ bs : List Gh, (match wantedA ops (frzL st bs) o with
  | none => False
  | some q => (q = true -> stepA P T N (frzL st bs) o (fun st' => awpOps P T N ops rest st' K Z) Z) /\ (q = false -> dstOK N o.dst /\ awpOps P T N ops rest ⟨putS (frzL st bs).s o.dst (.tup []), (frzL st bs).b⟩ K Z)) ∨
  (wantedA ops (frzL st bs) o = some true /\ Lit1 T N (frzL st bs) o.op o.dst (fun st' => awpOps P T N ops rest st' K Z))
section
variable {P : Program} {T : TypeId -> Option Ty} {w0 : World} {m0 : Nm} {F X : Nat -> Prop} {N : Nat} {st : St} {a : Act} {w : World} {m : Nm}
theorem wantedA_run [Glob] {ops : Array Oper} (h : Rel w0 m0 F X N st a w m) {o : Oper} {q : Bool} (hq : wantedA ops st o = some q) : Region.wanted o (yielded ops a.tmps) = q := by
 unfold wantedA at hq
 unfold Region.wanted
 split at hq
 ·rename_i hg
  simp only [Option.some.injEq] at hq
  rw [hg]; exact hq
 ·rename_i j want hg
  rw [hg]
  split at hq
  ·simp at hq
  rename_i d hd
  have ht := h.tmps d
  unfold yielded
  split at hq
  ·rename_i b hb
   simp only [Option.some.injEq] at hq
   rw [hb] at ht
   have ht' := RV.scal ht
   have hx : a.tmps[d]? = some (.bool b) := by
    rw [Array.getD_eq_getD_getElem?] at ht'
    cases hx : a.tmps[d]? with
    | none => rw [hx] at ht'; simp [undef] at ht'
    | some x => rw [hx] at ht'; simpa using ht'
   simp only [hd, Option.bind_some, hx]
   rw [<- hq]
   cases b <;> cases want <;> rfl
  ·rename_i hb
   simp only [Option.some.injEq] at hq
   rw [hb] at ht
   obtain ⟨xs, hxs, -, -⟩ := ht
   have : ∀ c, a.tmps[d]? ≠ some (.bool c) := fun c hc => by
    rw [Array.getD_eq_getD_getElem?, hc] at hxs
    simp at hxs
   simp only [hd, Option.bind_some]
   rw [<- hq]
   cases hx : a.tmps[d]? with
   | none => rfl
   | some x =>
    cases x <;> first | rfl | exact absurd hx (this _)
  ·simp at hq
theorem dstOK.lt {d : Option Nat} (h : dstOK N d) : ∀ k, d = some k -> dOK N k := fun k hk => by subst hk; exact h
theorem run_of_value {o : Oper} {x : Value} {w' : World} (hr : (execOp a.eval o).run P w = .ok (.value x) w') {K : Act -> World -> Prop} {Q : Exit -> Act -> World -> Prop} (hK : K (a.put o.dst x) w') : o.wp P a w K Q := by
 unfold Oper.wp
 rw [hr]; exact hK
theorem evMake_run [Glob] (hT : TabOK P T) (h : Rel w0 m0 F X N st a w m) {t : TypeId} {d : Nat} (hd : dOK N d) {n c : V} {qn qc : Value} (hn : RV w (Gd F m st.b) m n qn) (hc : RV w (Gd F m st.b) m c qc) {st' : St} (hv : evMake T st t n c d = some st') :
 ∃ x w' m', (Instr.makeSlice t qn qc).run P w = .ok x w' /\ Rel w0 m0 F X N st' (a.put (some d) x) w' m' := by
 unfold evMake at hv
 split at hv
 ·simp at hv
 rename_i y hy
 split at hv
 ·rename_i e hkd
  have hu := (hT t y hy).slice hkd
  split at hv
  ·simp at hv
  rename_i z hz
  split at hv
  ·rename_i kn n kc c zs hzs
   split at hv
   ·rename_i hcnd
    obtain ⟨h0, h1, h2, h3, h4⟩ := hcnd
    simp only [Option.some.injEq] at hv
    subst hv
    have e1 := RV.scal hn
    have e2 := RV.scal hc
    subst e1 e2
    obtain ⟨i, zv, hi, hs, hby, hzv, -⟩ := (hT e z hz).info
    obtain ⟨i', zv', hi', hs', hzv', har, hzl⟩ := zero_AR (hT e z hz) hzs w (Gd F m st.b)
    rw [hi] at hi'
    simp only [Option.some.injEq] at hi'
    subst hi'
    rw [hzv] at hzv'
    simp only [Option.some.injEq] at hzv'
    subst hzv'
    have hrun := run_make (P := P) w t e i zv hu hi hzv kn kc n c h0 h1 (by rw [hby]; exact h2) h3
    have hzc : zv.cells.size = z.size := by rw [hzl, (hT e z hz).zlen]
    have hlen : (List.replicate n.toNat zs).length = n.toNat := by simp
    obtain ⟨m', hm'⟩ := h.row (nm := d) hd (e := e) (c := z.size) (l := List.replicate n.toNat zs) (x := .slice (some ⟨w.heap.size, 0, none⟩) n.toNat c.toNat) (w' := w.alloc (.cells (madeCells zv.cells (c.toNat * i.size)) e))
     ⟨rfl, rfl, rfl, by simp, fun k hk _ => Go.RowKit.Below.heap_alloc w _ k hk⟩ (by
      by_cases hc0 : c.toNat = 0
      ·have hn0 : n.toNat = 0 := by omega
       refine .inl ⟨?_, ⟨some ⟨w.heap.size, 0, none⟩, by rw [hn0, hc0]⟩, by rw [hn0]; rfl⟩
       rw [hn0, hc0]
       exact RP.slM (l := []) (by simp) (by simp [maxLen]) (fun h => absurd rfl h) (fun i e h => by simp at h)
      ·refine .inr ⟨w.heap.size, c.toNat, _, by rw [hlen], by omega, by rw [hlen]; omega, by unfold maxLen; omega, heap_alloc_new w _, by rw [size_madeCells, hs], fun i' el hi' => ?_⟩
       have hin : i' < n.toNat := by have := (List.getElem?_eq_some_iff.1 hi').1; simpa using this
       rw [List.getElem?_replicate, if_pos hin] at hi'
       simp only [Option.some.injEq] at hi'
       subst hi'
       have hzsl : zs.length = z.size := by rw [<- har.1, hzc]
       refine ⟨hzsl, fun j p hj => ?_⟩
       obtain ⟨h5, u, h6, h7⟩ := har.2 j p hj
       have hjl := (List.getElem?_eq_some_iff.1 hj).1
       refine ⟨h5, u, ?_, h7⟩
       have hlt : i' * z.size + j < c.toNat * i.size := by
        have : (i' + 1) * z.size <= c.toNat * z.size := Nat.mul_le_mul_right _ (by omega)
        rw [Nat.add_mul, Nat.one_mul] at this
        rw [hs]; omega
       show (madeCells zv.cells (c.toNat * i.size))[i' * z.size + j]? = some u
       have hmod : (i' * z.size + j) % zv.cells.size = j := by
        rw [hzc, Nat.mul_comm, Nat.mul_add_mod, Nat.mod_eq_of_lt (by omega)]
       simp only [madeCells, Array.getElem?_map, Array.getElem?_range, hlt, if_true, Option.map_some, Option.some.injEq]
       rw [hmod]
       have := (Array.getElem?_eq_some_iff.1 h6)
       obtain ⟨h8, h9⟩ := this
       rw [getElem!_pos zv.cells j h8]; exact h9) (fun k hk => by
      simp only [ownB] at hk
      split at hk
      ·simp at hk
      ·simp only [Option.some.injEq] at hk
       subst hk
       exact ⟨.inr (Nat.le_refl _), by simp⟩)
    exact ⟨_, _, m', hrun, hm'⟩
   ·simp at hv
  ·simp at hv
 ·simp at hv
theorem app_run [Glob] (hT : TabOK P T) (h : Rel w0 m0 F X N st a w m) {d : Nat} (hd : dOK N d) {ts : Array TypeId} {as : Array Operand} {ty : TypeId} {K : St -> Prop} (hv : AppK T st d ts.toList (as.toList.map (evO st)) K) {K' : Act -> World -> Prop}
 (hK : ∀ st' a' w' m', K st' -> Rel w0 m0 F X N st' a' w' m' -> K' a' w') : ∃ x w', (Builtin.append_ ts ty (as.map a.eval)).run P w = .ok x w' /\ K' (a.put (some d) x) w' := by
 unfold AppK at hv
 split at hv
 ·rename_i t tx s x hts has
  have hts' : ts[0]? = some t /\ ts[1]? = some tx := by
   have h0 := congrArg (fun l : List TypeId => l[0]?) hts
   have h1 := congrArg (fun l : List TypeId => l[1]?) hts
   exact ⟨by simpa using h0, by simpa using h1⟩
  obtain ⟨o0, o1, hos⟩ : ∃ o0 o1, as.toList = [o0, o1] := by
   match hl : as.toList, has with
   | [o0, o1], _ => exact ⟨o0, o1, rfl⟩
  have hs0 : evO st o0 = s := by rw [hos] at has; simp at has; exact has.1
  have hx0 : evO st o1 = x := by rw [hos] at has; simp at has; exact has.2
  have hargs : as.map a.eval = #[a.eval o0, a.eval o1] := by
   apply Array.ext'
   simp [hos]
  rw [hargs]
  have hs := h.evO o0
  have hx := h.evO o1
  rw [hs0] at hs
  rw [hx0] at hx
  generalize a.eval o0 = qs at hs ⊢
  generalize a.eval o1 = qx at hx ⊢
  split at hv
  ·rename_i y yx hy hyx
   have key : ∀ e, y.kd = .slice e -> SrcT P tx -> AppE T st d e s x K -> ∃ x w', (Builtin.append_ ts ty #[qs, qx]).run P w = .ok x w' /\ K' (a.put (some d) x) w' := fun e hkd hux hv => by
    have hu := (hT t y hy).slice hkd
    unfold AppE at hv
    split at hv
    ·exact hv.elim
    rename_i z hz
    obtain ⟨hz0, hzb, hv⟩ := hv
    obtain ⟨i, zv, hi, hsz, hby, hzv, hzc, -⟩ := (hT e z hz).info
    have hzs : zv.cells.size = i.size := by
     have := congrArg List.length hzc
     simp at this
     rw [this, (hT e z hz).zlen, hsz]
    split at hv
    ·exact hv.elim
    rename_i l hl
    obtain ⟨news, hsrc⟩ := srcL_run h hz0 hl hx
    have bnd63 : ∀ {n : Nat}, n * z.bytes <= 140737488355328 -> n <= 9223372036854775807 := fun {n} hn => by
     have : n * 1 <= n * z.bytes := Nat.mul_le_mul_left _ (by omega)
     omega
    cases s with
    | nil c0 =>
     obtain ⟨hb, hk⟩ := hv
     have hq : qs = .slice none 0 0 := hs
     obtain ⟨v, w', h1, h2, h3, h4⟩ := app_row (st := st) (m := m) (F := F) (Y := fun k => owns m st.b d k) hu hi hzv hzs hux ts hts' ty hsz (l0 := []) hsrc (by simpa [hby] using hb) (by simpa using bnd63 hb) (by rw [hby]; exact hzb) hz0
      (.inr ⟨none, [], hq, by rw [hq]; exact src_empty _ _, .inr ⟨rfl, by rw [hq]; exact .nil _⟩⟩)
     obtain ⟨m', hm'⟩ := h.row hd h2 h3 h4
     exact ⟨v, w', h1, hK _ _ _ _ hk hm'⟩
    | row b =>
     simp only at hv
     cases hb' : st.b b with
     | none => rw [hb'] at hv; exact hv.elim
     | some blk =>
      rw [hb'] at hv
      cases blk with
      | box e' cs => exact hv.elim
      | mp ks l => exact hv.elim
      | row e' c' l0 =>
       obtain ⟨rfl, rfl, hb, hk⟩ := hv
       have hq : qs = m.r b := hs
       obtain ⟨v, w', h1, h2, h3, h4⟩ := app_row (st := st) (m := m) (F := F) (Y := fun k => owns m st.b b k) hu hi hzv hzs hux ts hts' ty hsz (l0 := l0) hsrc (by simpa [hby] using hb) (bnd63 hb) (by rw [hby]; exact hzb) hz0
        (s := qs) (.inl ⟨by rw [hq]; exact (h.blks b _ hb').RBr, fun k hk' => by unfold owns; rw [hb', <- hq]; exact hk'⟩)
       obtain ⟨m', hm'⟩ := h.row hd h2 h3 h4
       exact ⟨v, w', h1, hK _ _ _ _ hk hm'⟩
    | full c' l0 =>
     obtain ⟨rfl, hb, hk⟩ := hv
     obtain ⟨hq1, b, hq2⟩ := hs
     obtain ⟨olds, ho⟩ := src_RP hz0 hq1
     rcases hk with ⟨hcase, hk⟩ | hk
     ·obtain ⟨v, w', h1, h2, h3, h4⟩ := app_row (st := st) (m := m) (F := F) (Y := fun k => owns m st.b d k) hu hi hzv hzs hux ts hts' ty hsz (l0 := l0) hsrc (by simpa [hby] using hb) (bnd63 hb) (by rw [hby]; exact hzb) hz0
       (.inr ⟨b, olds, hq2, ho, hcase.imp id fun h0 => ⟨h0, by rw [h0] at hq1; exact hq1⟩⟩)
      obtain ⟨m', hm'⟩ := h.row hd h2 h3 h4
      exact ⟨v, w', h1, hK _ _ _ _ hk hm'⟩
     ·by_cases hle : l = []
      ·have hrun := app_none (P := P) (w := w) hu hi hux ts hts' ty (b := b) (n := l0.length) (cap := l0.length) (Nat.le_refl _) (x := qx) hsz (hle ▸ hsrc)
       rw [<- hq2] at hrun
       refine ⟨qs, w, hrun, hK _ _ _ m hk (h.put (some d) _ qs (fun k hk => by simp only [Option.some.injEq] at hk; subst hk; exact hd) (.of0 (v := .p _) ?_))⟩
       rw [hle, List.append_nil]; exact hq1
      ·obtain ⟨v, w', h1, h2, h3, h4⟩ := app_row (st := st) (m := m) (F := F) (Y := fun _ => False) hu hi hzv hzs hux ts hts' ty hsz (l0 := l0) hsrc (by simpa [hby] using hb) (bnd63 hb) (by rw [hby]; exact hzb) hz0
        (.inr ⟨b, olds, hq2, ho, .inl hle⟩)
       refine ⟨v, w', h1, hK _ _ _ m hk ((h.world h2).put (some d) _ v (fun k hk => by simp only [Option.some.injEq] at hk; subst hk; exact hd) (.of0 (v := .p _) ?_))⟩
       refine h3.RP (G' := Gd F m st.b) ⟨h2.size, fun k hk _ => h2.block k hk id, fun _ _ hg => hg⟩ (fun k hk hg => ?_)
       rcases (h4 k hk).1 with h5 | h5
       ·exact h5
       ·have := h.gd_lt k hg; omega
    | _ => exact hv.elim
   split at hv
   ·rename_i e ex hkd hkx
    exact key e hkd (.inl ⟨_, (hT tx yx hyx).slice hkx⟩) hv
   ·rename_i e hkd hkx
    exact key e hkd (.inr ((hT tx yx hyx).str hkx)) hv
   ·exact hv.elim
  ·exact hv.elim
 ·exact hv.elim
theorem cat_mem {α : Type} {mv : Bool} {a c : List α} {x : α} (h : x ∈ cat mv a c) : x ∈ a \/ x ∈ c := by cases mv <;> simp [cat] at h <;> first | exact h | exact h.symm
theorem cat_length {α : Type} (mv : Bool) (a c : List α) : (cat mv a c).length = a.length + c.length := by cases mv <;> simp [cat, Nat.add_comm]
theorem app_get {α β : Type} {R : α -> β -> Prop} {a c : List α} {x y : List β} (hl : a.length = x.length) (ha : ∀ (i : Nat) (v : α), a[i]? = some v -> ∃ q, x[i]? = some q /\ R v q)
 (hc : ∀ (i : Nat) (v : α), c[i]? = some v -> ∃ q, y[i]? = some q /\ R v q) : ∀ (i : Nat) (v : α), (a ++ c)[i]? = some v -> ∃ q, (x ++ y)[i]? = some q /\ R v q := fun i v hi => by
 by_cases hlt : i < a.length
 ·rw [List.getElem?_append_left hlt] at hi
  rw [List.getElem?_append_left (by omega)]
  exact ha i v hi
 ·rw [List.getElem?_append_right (by omega)] at hi
  rw [List.getElem?_append_right (by omega), <- hl]
  exact hc _ v hi
theorem hargs_of [Glob] (h : Rel w0 m0 F X N st a w m) (as : Array Operand) {mv : Bool} {cs : List V} {cx : List Value} (hcl : cx.length = cs.length) (hc : ∀ (i : Nat) (v : V), cs[i]? = some v -> ∃ q, cx[i]? = some q /\ RV w (Gd F m st.b) m v q) :
 ∀ (i : Nat) (v : V), (cat mv (as.toList.map (evO st)) cs)[i]? = some v -> ∃ q, (cat mv (as.toList.map a.eval) cx)[i]? = some q /\ RV w (Gd F m st.b) m v q := by
 have ha : ∀ (i : Nat) (v : V), (as.toList.map (evO st))[i]? = some v -> ∃ q, (as.toList.map a.eval)[i]? = some q /\ RV w (Gd F m st.b) m v q := fun i v hi => by
  rw [List.getElem?_map] at hi ⊢
  cases hx : as.toList[i]? with
  | none => rw [hx] at hi; simp at hi
  | some x =>
   rw [hx] at hi
   simp only [Option.map_some, Option.some.injEq] at hi ⊢
   exact ⟨_, rfl, hi ▸ h.evO x⟩
 cases mv with
 | false => exact app_get (by simp) ha hc
 | true => exact app_get hcl.symm hc ha
theorem callee_run [Glob] (h : Rel w0 m0 F X N st a w m) {f : Operand} {g : FuncId} {cs : List V} {mv : Bool} (hf : calleeOf (evO st f) = some (g, cs, mv)) :
 ∃ cx : List Value, a.eval f = fnv ⟨g, mv⟩ cx /\ cx.length = cs.length /\ ∀ (i : Nat) (v : V), cs[i]? = some v -> ∃ q, cx[i]? = some q /\ RV w (Gd F m st.b) m v q := by
 have hfe := h.evO f
 unfold calleeOf at hf
 split at hf
 ·rename_i g' x1 x2 he
  simp only [Option.some.injEq, Prod.mk.injEq] at hf
  obtain ⟨rfl, rfl, rfl⟩ := hf
  rw [he] at hfe
  have hfe' := RV.scal hfe
  have hsc : scal (.func (.func g') x1 x2) = true := by
   rw [hfe'] at hfe
   cases (show RP w (Gd F m st.b) (.v (.func (.func g') x1 x2)) (.func (.func g') x1 x2) from hfe)
   assumption
  have e1 : x1 = #[] := by simp only [scal, Bool.and_eq_true, beq_iff_eq] at hsc; exact Array.size_eq_zero_iff.1 hsc.1
  have e2 : x2 = #[] := by simp only [scal, Bool.and_eq_true, beq_iff_eq] at hsc; exact Array.size_eq_zero_iff.1 hsc.2
  exact ⟨[], by rw [hfe', e1, e2]; rfl, rfl, fun i v hi => by simp at hi⟩
 ·rename_i g' caps he
  simp only [Option.some.injEq, Prod.mk.injEq] at hf
  obtain ⟨rfl, rfl, rfl⟩ := hf
  rw [he] at hfe
  obtain ⟨cx, h1, h2, h3⟩ := (show RV0 w (Gd F m st.b) m (.clo g' caps) (a.eval f) from hfe)
  refine ⟨cx, h1, by simp [h2], fun i v hi => ?_⟩
  rw [List.getElem?_map] at hi
  cases hc : caps[i]? with
  | none => rw [hc] at hi; simp at hi
  | some c =>
   rw [hc] at hi
   simp only [Option.map_some, Option.some.injEq] at hi
   obtain ⟨y, h4, h5⟩ := h3 i c hc
   refine ⟨y, h4, ?_⟩
   subst hi
   cases c with
   | box b => exact .of0 (v := .ptr _ _) h5
   | val p => exact .of0 (v := .p _) h5
   | rp e j => exact .of0 (v := .rptr _ _) h5
 ·simp at hf
theorem plain_out [Glob] {w' : World} {F' : Nat -> Prop} {m' : Nm} {e : Ending} {v : V} (hk : Keeps (fun k => ∃ n, owns m' (nmF [] []) n k) w w') {Y : Nat -> Prop} (ho : OutR w F' Y m' e w' (.ret v [] [])) :
 Keeps (fun _ => False) w w' /\ ∃ x m2, e = .returned x /\ RV w' (Gd F' m2 (nmF [] [])) m2 v x := by
 refine ⟨hk.mono fun k ⟨n, h⟩ => by simp [owns, nmF_nil] at h, ?_⟩
 obtain ⟨x, m2, he, -, -, -, hv⟩ := ho
 exact ⟨x, m2, he, hv⟩
theorem call_run_pure [Glob] (h : Rel w0 m0 F X N st a w m) {o : Oper} {f : Operand} {as : Array Operand} {ts : Array TypeId} (ho : o.op = .call { callee := .value f, args := as, argTypes := ts }) {g : FuncId} {cs : List V} {mv : Bool} (hf : calleeOf (evO st f) = some (g, cs, mv)) (hd : dstOK N o.dst)
 {us : List V} {v : V} (hus : (argsP T (catT mv cs ts.toList) (cat mv (as.toList.map (evO st)) cs) = some us /\ pureV v = true) \/ (argsB T st (catT mv cs ts.toList) (cat mv (as.toList.map (evO st)) cs) = some us /\ flatR v = true)) (hc : ACon P g us v) {K' : Act -> World -> Prop} {Q : Exit -> Act -> World -> Prop} (hK : ∀ x w', Rel w0 m0 F X N ⟨putS st.s o.dst v, st.b⟩ (a.put o.dst x) w' m -> K' (a.put o.dst x) w') : o.wp P a w K' Q := by
 obtain ⟨cx, hfe, hcl, hcx⟩ := callee_run h hf
 have hargs := hargs_of h as (mv := mv) hcl hcx
 have hlen : (cat mv (as.toList.map a.eval) cx).length = (cat mv (as.toList.map (evO st)) cs).length := by rw [cat_length, cat_length, hcl]; simp
 rcases hus with ⟨hus, hpv⟩ | ⟨hus, hpv⟩
 ·obtain ⟨h1, h2⟩ := argsP_run (w := w) (G := Gd F m st.b) (G' := Gd (Gd F m st.b) m (nmF [] [])) (m := m) (fun k hk => Gd_nil hk) m (xs := cat mv (as.toList.map a.eval) cx) hus hlen hargs
  have hcall := hc (Gd F m st.b) w m _ (Hp.none h.gd_lt nmF_nil h.glob) (by rw [hlen, h1]) h2
  refine wp_callC ho hfe hcall fun e w' ⟨hk, hout⟩ => ?_
  obtain ⟨hk', x, m2, rfl, hv⟩ := plain_out hk hout
  exact .inl ⟨x, rfl, hK x w' ((h.world hk').put o.dst v x hd.lt (hv.pure_any ⟨Nat.le_refl _, fun _ _ _ => rfl, fun k _ hg => .inl hg⟩ hpv))⟩
 ·obtain ⟨h1, h2⟩ := argsB_run h m _ (xs := cat mv (as.toList.map a.eval) cx) hus hlen (fun v hv => hv) hargs
  have hcall := hc (LentF F m st (cat mv (as.toList.map (evO st)) cs)) w m _ (Hp.none (fun k hk => h.gd_lt k hk.1) nmF_nil fun g e he => (h.glob g e he).less fun k hk => hk.1) (by rw [hlen, h1]) (fun i v hi => by
   obtain ⟨x, h3, h4⟩ := h2 i v hi
   exact ⟨x, h3, h4.keep ⟨Nat.le_refl _, fun _ _ _ => rfl, fun k _ hg => Gd_nil hg⟩⟩)
  refine wp_callC ho hfe hcall fun e w' ⟨hk, hout⟩ => ?_
  obtain ⟨hk', x, m2, rfl, hv⟩ := plain_out hk hout
  exact .inl ⟨x, rfl, hK x w' ((h.world hk').put o.dst v x hd.lt (hv.flat_any hpv))⟩
def LentA (F : Nat -> Prop) (m : Nm) (st : St) (k : Nat) : Prop := Gd F m st.b k /\ ¬ ∃ b, owns m st.b b k
theorem lendC_run [Glob] (h : Rel w0 m0 F X N st a w m) : ∀ {l : List V} {ps : List PV}, lendC st l = some ps →
 ps.length = l.length /\ ∀ (i : Nat) (p : PV), ps[i]? = some p -> ∃ c, l[i]? = some c /\ ∀ y, y.oneCell' = true -> RV0 w (Gd F m st.b) m c y -> p.one = true /\ RP w (LentA F m st) p y
 | [], ps, hh => by simp only [lendC, Option.some.injEq] at hh; subst hh; simp
 | .p q :: r, ps, hh => by
  simp only [lendC] at hh
  split at hh
  ·rename_i l' hl'
   simp only [Option.some.injEq] at hh; subst hh
   obtain ⟨h1, h2⟩ := lendC_run h hl'
   refine ⟨by simp [h1], fun i p hi => ?_⟩
   cases i with
   | zero =>
    simp only [List.getElem?_cons_zero, Option.some.injEq] at hi
    subst hi
    refine ⟨_, rfl, fun y hy hr => ?_⟩
    have hr' : RP w (Gd F m st.b) q y := hr
    refine ⟨?_, RP.move (Nat.le_refl _) (fun _ _ _ => rfl) (fun k _ hg => hg.1) hr'⟩
    cases q with
    | agg l => cases hr' with
     | agg l cs u hs hone hcell hr => simp [Value.oneCell'] at hy
    | _ => rfl
   | succ i => simpa using h2 i p (by simpa using hi)
  ·simp at hh
 | .nil c :: r, ps, hh => by
  simp only [lendC] at hh
  split at hh
  ·rename_i l' hl'
   simp only [Option.some.injEq] at hh; subst hh
   obtain ⟨h1, h2⟩ := lendC_run h hl'
   refine ⟨by simp [h1], fun i p hi => ?_⟩
   cases i with
   | zero =>
    simp only [List.getElem?_cons_zero, Option.some.injEq] at hi
    subst hi
    exact ⟨_, rfl, fun y hy hr => ⟨rfl, by rw [show y = .slice none 0 0 from hr]; exact .nil _⟩⟩
   | succ i => simpa using h2 i p (by simpa using hi)
  ·simp at hh
 | .row b :: r, ps, hh => by
  simp only [lendC] at hh
  split at hh
  ·rename_i e c l0 l' hb hl'
   simp only [Option.some.injEq] at hh; subst hh
   obtain ⟨h1, h2⟩ := lendC_run h hl'
   refine ⟨by simp [h1], fun i p hi => ?_⟩
   cases i with
   | zero =>
    simp only [List.getElem?_cons_zero, Option.some.injEq] at hi
    subst hi
    refine ⟨_, rfl, fun y hy hr => ?_⟩
    rw [show y = m.r b from hr]
    refine ⟨rfl, RP.of_row (h.blks b _ hb) ⟨Nat.le_refl _, fun _ _ _ => rfl, fun k _ hg => hg.1⟩ fun k hk hg => hg.2 ⟨b, ?_⟩⟩
    unfold owns; rw [hb]; exact hk
   | succ i => simpa using h2 i p (by simpa using hi)
  ·simp at hh
 | .full .. :: r, ps, hh => by simp [lendC] at hh
 | .ptr .. :: r, ps, hh => by simp [lendC] at hh
 | .eptr .. :: r, ps, hh => by simp [lendC] at hh
 | .rptr .. :: r, ps, hh => by simp [lendC] at hh
 | .clo .. :: r, ps, hh => by simp [lendC] at hh
 | .ag .. :: r, ps, hh => by simp [lendC] at hh
 | .suf .. :: r, ps, hh => by simp [lendC] at hh
 | .tup .. :: r, ps, hh => by simp [lendC] at hh
 | .junk :: r, ps, hh => by simp [lendC] at hh
theorem argA_run [Glob] (h : Rel w0 m0 F X N st a w m) {t : TypeId} {v u : V} (hu : argA T st t v = some u) {x : Value} (hx : RV w (Gd F m st.b) m v x) : RV0 w (LentA F m st) m u x := by
 have old : argB T st t v = some u -> RV0 w (LentA F m st) m u x := fun hb => by
  obtain ⟨-, h2⟩ := argsB_run (T := T) h m [v] (ts := [t]) (vs := [v]) (us := [u]) (xs := [x]) (by simp [argsB, hb]) rfl (fun v hv => hv) (fun i v' hi => by
   cases i with
   | zero => simp only [List.getElem?_cons_zero, Option.some.injEq] at hi; subst hi; exact ⟨x, rfl, hx⟩
   | succ i => simp at hi)
  obtain ⟨x', h3, h4⟩ := h2 0 u rfl
  simp only [List.getElem?_cons_zero, Option.some.injEq] at h3
  subst h3
  exact h4.keep ⟨Nat.le_refl _, fun _ _ _ => rfl, fun k _ hg => ⟨hg.1, fun ⟨b, _, ho⟩ => hg.2 ⟨b, ho⟩⟩⟩
 cases v with
 | ptr b j =>
  simp only [argA] at hu
  split at hu
  ·rename_i e cells hb
   split at hu
   ·rename_i es hes
    simp only [Option.some.injEq] at hu; subst hu
    have hx' : x = .pointer (some ⟨m.i b, j, none⟩) := hx
    obtain ⟨cs, hh, hsz, hcs⟩ := h.blks b _ hb
    obtain ⟨h1, h2⟩ := lendC_run h hes
    refine ⟨m.i b, 0, by rw [hx']; simp, fun _ => ⟨?_, fun hg => hg.2 ⟨b, ?_⟩⟩, fun i p hi => ?_⟩
    ·exact (Array.getElem?_eq_some_iff.1 hh).1
    ·unfold owns; rw [hb]
    ·obtain ⟨c, hc, hg⟩ := h2 i p hi
     obtain ⟨y, y1, y2, y3⟩ := hcs i c hc
     obtain ⟨g1, g2⟩ := hg y y2 y3
     exact ⟨g1, y, by simpa [World.cell?, hh] using y1, g2⟩
   ·simp at hu
  ·simp at hu
 | _ => exact old hu
theorem argsA_run [Glob] (h : Rel w0 m0 F X N st a w m) : ∀ {ts : List TypeId} {vs us : List V} {xs : List Value}, argsA T st ts vs = some us -> xs.length = vs.length →
 (∀ (i : Nat) (v : V), vs[i]? = some v -> ∃ x, xs[i]? = some x /\ RV w (Gd F m st.b) m v x) -> us.length = vs.length /\ ∀ (i : Nat) (u : V), us[i]? = some u -> ∃ x, xs[i]? = some x /\ RV0 w (LentA F m st) m u x
 | ts, [], us, xs, hh, hl, hx => by simp [argsA] at hh; subst hh; simp
 | ts, v :: r, us, xs, hh, hl, hx => by
  simp only [argsA] at hh
  split at hh
  ·rename_i u l hu hr
   simp only [Option.some.injEq] at hh; subst hh
   cases xs with
   | nil => simp at hl
   | cons x xs =>
    obtain ⟨h1, h2⟩ := argsA_run h (xs := xs) hr (by simpa using hl) (fun i v hi => by simpa using hx (i + 1) v (by simpa using hi))
    refine ⟨by simp [h1], fun i u' hi => ?_⟩
    cases i with
    | zero =>
     simp only [List.getElem?_cons_zero, Option.some.injEq] at hi
     subst hi
     obtain ⟨x', hx1, hx2⟩ := hx 0 v rfl
     simp only [List.getElem?_cons_zero, Option.some.injEq] at hx1
     subst hx1
     exact ⟨x, rfl, argA_run h hu hx2⟩
    | succ i => simpa using h2 i u' (by simpa using hi)
  ·simp at hh
theorem call_run_lentA [Glob] (h : Rel w0 m0 F X N st a w m) {o : Oper} {f : Operand} {as : Array Operand} {ts : Array TypeId} (ho : o.op = .call { callee := .value f, args := as, argTypes := ts }) {g : FuncId} {cs : List V} {mv : Bool} (hf : calleeOf (evO st f) = some (g, cs, mv)) (hd : dstOK N o.dst)
 {us : List V} {v : V} (hus : argsA T st (catT mv cs ts.toList) (cat mv (as.toList.map (evO st)) cs) = some us) (hpv : flatR v = true) (hc : ACon P g us v) {K' : Act -> World -> Prop} {Q : Exit -> Act -> World -> Prop} (hK : ∀ x w', Rel w0 m0 F X N ⟨putS st.s o.dst v, st.b⟩ (a.put o.dst x) w' m -> K' (a.put o.dst x) w') : o.wp P a w K' Q := by
 obtain ⟨cx, hfe, hcl, hcx⟩ := callee_run h hf
 have hargs := hargs_of h as (mv := mv) hcl hcx
 have hlen : (cat mv (as.toList.map a.eval) cx).length = (cat mv (as.toList.map (evO st)) cs).length := by rw [cat_length, cat_length, hcl]; simp
 obtain ⟨h1, h2⟩ := argsA_run h (xs := cat mv (as.toList.map a.eval) cx) hus hlen hargs
 have hcall := hc (LentA F m st) w m _ (Hp.none (fun k hk => h.gd_lt k hk.1) nmF_nil fun g e he => (h.glob g e he).less fun k hk => hk.1) (by rw [hlen, h1]) (fun i v hi => by
  obtain ⟨x, h3, h4⟩ := h2 i v hi
  exact ⟨x, h3, h4.keep ⟨Nat.le_refl _, fun _ _ _ => rfl, fun k _ hg => Gd_nil hg⟩⟩)
 refine wp_callC ho hfe hcall fun e w' ⟨hk, hout⟩ => ?_
 obtain ⟨hk', x, m2, rfl, hv⟩ := plain_out hk hout
 exact .inl ⟨x, rfl, hK x w' ((h.world hk').put o.dst v x hd.lt (hv.flat_any hpv))⟩
theorem kpI_one (d b : Nat) : kpI [d] b = if b = d then none else some b := by
 unfold kpI pos
 by_cases h : d = b
 ·simp [h]
 ·simp [h, Ne.symm h, pos]
theorem kpR_one (d b : Nat) : kpR [] [d] b = if b = d then none else some b := by
 unfold kpR pos
 by_cases h : d = b
 ·simp [h]
 ·simp [h, Ne.symm h, pos]
theorem renCs_one [Glob] (d : Nat) : ∀ l : List Cap, renCs (kpI [d]) l = if l.any (·.isB d) then none else some l
 | [] => rfl
 | c :: l => by
  simp only [renCs, renCs_one d l, List.any_cons]
  cases c with
  | box b =>
   simp only [renC, kpI_one, Cap.isB]
   by_cases h : b = d
   ·simp [h]
   ·simp [h]
    split <;> simp_all
  | val p =>
   simp only [renC, Cap.isB, Bool.false_or]
   split <;> simp_all
  | rp e j =>
   simp only [renC, Cap.isB, Bool.false_or]
   split <;> simp_all
theorem renFs_one [Glob] (d : Nat) : ∀ l : List Fc, renFs (kpR [] [d]) l = if l.any (·.isR d) then none else some l
 | [] => rfl
 | c :: l => by
  simp only [renFs, renFs_one d l, List.any_cons]
  cases c with
  | row b =>
   simp only [renF, kpR_one, Fc.isR]
   by_cases h : b = d
   ·simp [h]
   ·simp [h]
    split <;> simp_all
  | p p =>
   simp only [renF, Fc.isR, Bool.false_or]
   split <;> simp_all
  | nil c =>
   simp only [renF, Fc.isR, Bool.false_or]
   split <;> simp_all
theorem ren0_one [Glob] (d : Nat) (v : V) : ren0 (kpI [d]) (kpR [] [d]) v = scr0 d v := by
 cases v with
 | ptr b o => simp only [ren0, scr0, kpI_one]; by_cases h : b = d <;> simp [h]
 | eptr b c i j => simp only [ren0, scr0, kpR_one]; by_cases h : b = d <;> simp [h]
 | row b => simp only [ren0, scr0, kpR_one]; by_cases h : b = d <;> simp [h]
 | clo f cs => simp only [ren0, scr0, renCs_one]; by_cases h : cs.any (·.isB d) = true <;> simp [h]
 | ag l => simp only [ren0, scr0, renFs_one]; by_cases h : l.any (·.isR d) = true <;> simp [h]
 | suf b c i => simp only [ren0, scr0, kpR_one]; by_cases h : b = d <;> simp [h]
 | _ => rfl
theorem ren_one [Glob] (d : Nat) (v : V) : ren (kpI [d]) (kpR [] [d]) v = scr d v := by
 have h0 : ren0 (kpI [d]) (kpR [] [d]) = scr0 d := funext (ren0_one d)
 cases v with
 | tup l => simp only [ren, scr, h0]
 | _ => simp only [ren, scr, h0]
theorem renB_one [Glob] (d : Nat) (blk : Blk) : renB (kpI [d]) (kpR [] [d]) blk = scrB d blk := by
 have h0 : ren0 (kpI [d]) (kpR [] [d]) = scr0 d := funext (ren0_one d)
 cases blk <;> simp only [renB, scrB, h0]
theorem lv_one [Glob] (st : St) (d e c : Nat) (l : List (List PV)) : (⟨putS (lv st [] [d] [.row e c l] []).s (some d) (.row d), (lv st [] [d] [.row e c l] []).b⟩ : St) = crt st d d (.row e c l) (.row d) := by
 have e1 : (lv st [] [d] [.row e c l] []).s = fun t => scr d (st.s t) := funext fun t => ren_one d _
 have e2 : (lv st [] [d] [.row e c l] []).b = fun b => if b = d then some (.row e c l) else (st.b b).map (scrB d) := funext fun b => by
  simp only [lv, pos]
  by_cases h : d = b
  ·simp [h, renB]
  ·have h' : ¬ b = d := fun hh => h hh.symm
   simp only [if_neg h, if_neg h']
   rw [show renB (kpI [d]) (kpR [] [d]) = scrB d from funext (renB_one d)]
 rw [e1, e2]; rfl
theorem flatBx_get {st : St} : ∀ {S : List Nat} {β : List Blk}, flatBx st S = some β -> β.length = S.length /\ (∀ (i : Nat) (blk : Blk), β[i]? = some blk -> ∃ b e cells, S[i]? = some b /\ st.b b = some blk /\ blk = .box e cells /\ cells.all flatC = true) /\ ∀ b ∈ S, ∃ e cells, st.b b = some (.box e cells) /\ cells.all flatC = true
 | [], β, h => by simp only [flatBx, Option.some.injEq] at h; subst h; simp
 | b :: l, β, h => by
  simp only [flatBx] at h
  split at h
  ·rename_i e cells r hb hr
   split at h
   ·rename_i hf
    simp only [Option.some.injEq] at h
    subst h
    obtain ⟨h1, h2, h3⟩ := flatBx_get hr
    refine ⟨by simp [h1], fun i blk hi => ?_, fun b' hb' => ?_⟩
    ·cases i with
     | zero => simp at hi; subst hi; exact ⟨b, e, cells, rfl, hb, rfl, hf⟩
     | succ i => simpa using h2 i blk (by simpa using hi)
    ·rcases List.mem_cons.1 hb' with rfl | hb'
     ·exact ⟨e, cells, hb, hf⟩
     ·exact h3 b' hb'
   ·simp at h
  ·simp at h
theorem flatC_ren {ρ σ : Nat -> Option Nat} {v : V} (h : flatC v = true) : ren0 ρ σ v = v := by
 cases v with
 | p x => rfl
 | _ => simp [flatC] at h
theorem flatBx_blks {st : St} {ρ : Nat -> Option Nat} : ∀ {S : List Nat} {β : List Blk}, flatBx st S = some β -> blksOf st ρ S = some β
 | [], β, h => by simp only [flatBx, Option.some.injEq] at h; subst h; rfl
 | b :: l, β, h => by
  simp only [flatBx] at h
  split at h
  ·rename_i e cells r hb hr
   split at h
   ·rename_i hf
    simp only [Option.some.injEq] at h
    subst h
    simp only [blksOf, hb, flatBx_blks (ρ := ρ) hr]
    have : cells.map (ren0 ρ ρ) = cells := by
     conv => rhs; rw [<- List.map_id cells]
     exact List.map_congr_left fun v hv => flatC_ren (List.all_eq_true.1 hf v hv)
    simp [renB, this]
   ·simp at h
  ·simp at h
theorem RV0.flatC_any {w w' : World} {G G' : Nat -> Prop} {m m' : Nm} {v : V} {x : Value} (hv : flatC v = true) (h : RV0 w G m v x) : RV0 w' G' m' v x := by
 cases v with
 | p p =>
  cases p with
  | v y =>
   have h' : RP w G (.v y) x := h
   cases h'
   exact RP.v _ (by assumption)
  | _ => simp [flatC] at hv
 | _ => simp [flatC] at hv
theorem Hp.lessF [Glob] {w : World} {F F' : Nat -> Prop} {m : Nm} {β : Nat -> Option Blk} (h : Hp w F m β) (hF : ∀ k, F' k -> F k) : Hp w F' m β := by
 have hG : ∀ k, Gd F' m β k -> Gd F m β k := fun k hk => hk.imp (hF k) id
 exact ⟨fun k hk => h.fold k (hF k hk), fun b k ho => ⟨(h.own b k ho).1, fun hk => (h.own b k ho).2 (hF k hk)⟩, h.uniq, fun b blk hb => (h.blks b blk hb).keep ⟨Nat.le_refl _, fun _ _ _ => rfl, fun k _ hk => hG k hk⟩ fun _ _ => rfl, fun g e he => (h.glob g e he).less hG⟩
theorem argsR_run [Glob] (h : Rel w0 m0 F X N st a w m) {S : List Nat} {V0 : List V} {G' : Nat -> Prop} (hG : ∀ k, G' k -> Gd F m st.b k) (hrow : ∀ b k, V.row b ∈ V0 -> owns m st.b b k -> (∃ e c l, st.b b = some (.row e c l)) -> ¬ G' k) : ∀ {ts : List TypeId} {vs us : List V} {xs : List Value}, argsR T st S ts vs = some us -> xs.length = vs.length -> (∀ v ∈ vs, v ∈ V0) →
 (∀ (i : Nat) (v : V), vs[i]? = some v -> ∃ x, xs[i]? = some x /\ RV w (Gd F m st.b) m v x) -> us.length = vs.length /\ ∀ (i : Nat) (u : V), us[i]? = some u -> ∃ x, xs[i]? = some x /\ RV0 w G' (inM m S) u x
 | ts, [], us, xs, hh, hl, _, hx => by simp [argsR] at hh; subst hh; simp
 | ts, v :: r, us, xs, hh, hl, hin, hx => by
  simp only [argsR] at hh
  split at hh
  ·rename_i u l hu hl'
   simp only [Option.some.injEq] at hh
   subst hh
   match xs, hl with
   | y :: ys, hl =>
    obtain ⟨h1, h2⟩ := argsR_run h hG hrow (xs := ys) hl' (by simpa using hl) (fun v hv => hin v (by simp [hv])) (fun i v hi => by simpa using hx (i + 1) v (by simpa using hi))
    refine ⟨by simp [h1], fun i u' hi => ?_⟩
    cases i with
    | zero =>
     simp only [List.getElem?_cons_zero, Option.some.injEq] at hi
     subst hi
     obtain ⟨x, hx1, hx2⟩ := hx 0 v rfl
     refine ⟨x, hx1, ?_⟩
     cases v with
     | row b =>
      simp only [argR] at hu
      split at hu
      ·rename_i e c l0 hb
       simp only [Option.some.injEq] at hu
       subst hu
       rw [show x = m.r b from hx2]
       exact RP.of_row (h.blks b _ hb) ⟨Nat.le_refl _, fun _ _ _ => rfl, fun k _ hk => hG k hk⟩ fun k hk => hrow b k (hin _ (by simp)) (by unfold owns; rw [hb]; exact hk) ⟨_, _, _, hb⟩
      ·simp at hu
     | _ => simp only [argR] at hu; exact argG_run hG hu hx2
    | succ i => simpa using h2 i u' (by simpa using hi)
  ·simp at hh
theorem call_read [Glob] (h : Rel w0 m0 F X N st a w m) {o : Oper} {f : Operand} {as : Array Operand} {ts : Array TypeId} (ho : o.op = .call { callee := .value f, args := as, argTypes := ts }) {g : FuncId} {cs : List V} {mv : Bool} (hf : calleeOf (evO st f) = some (g, cs, mv)) (hd : dstOK N o.dst)
 {S : List Nat} {us : List V} {β : List Blk} {v : V} (hS : S.Nodup) (hSl : S.length <= 1024) (hβ : flatBx st S = some β) (hus : argsR T st S (catT mv cs ts.toList) (cat mv (as.toList.map (evO st)) cs) = some us) (hc : Con P g us β (.ret v [] β)) (hfl : flatR v = true)
 {K' : Act -> World -> Prop} {Q : Exit -> Act -> World -> Prop} (hK : ∀ x w', Rel w0 m0 F X N ⟨putS st.s o.dst v, st.b⟩ (a.put o.dst x) w' m -> K' (a.put o.dst x) w') : o.wp P a w K' Q := by
 obtain ⟨cx, hfe, hcl, hcx⟩ := callee_run h hf
 have hargs := hargs_of h as (mv := mv) hcl hcx
 have hlen : (cat mv (as.toList.map a.eval) cx).length = (cat mv (as.toList.map (evO st)) cs).length := by rw [cat_length, cat_length, hcl]; simp
 obtain ⟨hp, hent, hG⟩ := h.enter hS (flatBx_blks (ρ := inN S) hβ)
 obtain ⟨hb1, hb2, hb3⟩ := flatBx_get hβ
 let F' : Nat -> Prop := fun k => RestF F m st S k /\ ¬ ∃ b, V.row b ∈ (cat mv (as.toList.map (evO st)) cs) /\ owns m st.b b k
 have hp' : Hp w F' (inM m S) (nmF β []) := hp.lessF fun k hk => hk.1
 have hG' : ∀ k, Gd F' (inM m S) (nmF β []) k -> Gd F m st.b k := fun k hk => hG k (hk.imp (fun h => h.1) id)
 obtain ⟨h1, h2⟩ := argsR_run h (S := S) (V0 := cat mv (as.toList.map (evO st)) cs) hG' (fun b k hb ho hr => by
  rintro (hk | ⟨n, hn⟩)
  ·exact hk.2 ⟨b, hb, ho⟩
  ·obtain ⟨b', h3, -, -, h4⟩ := hent n k hn
   have := h.uniq _ _ _ ho h4
   subst this
   obtain ⟨e, c, l, hr⟩ := hr
   obtain ⟨e', cells, hbx, -⟩ := hb3 b (List.mem_of_getElem? (pos_some h3))
   rw [hr] at hbx; simp at hbx) hus hlen (fun v hv => hv) hargs
 have hcall := hc F' w (inM m S) _ hp' (by rw [hlen, h1]) h2
 refine wp_callC ho hfe hcall fun e w' ⟨hkp, hout⟩ => ?_
 obtain ⟨x, m2, rfl, hp2, hown, hnam, hvx⟩ := hout
 have hsub : ∀ k, (∃ n, owns (inM m S) (nmF β []) n k) -> ∃ b i, pos S b = some i /\ owns m st.b b k := fun k ⟨n, hn⟩ => by
  obtain ⟨b, h3, -, -, h4⟩ := hent n k hn
  exact ⟨b, _, h3, h4⟩
 have ht : Turn w w' (Gd F m st.b) (Gd F m st.b) := ⟨hkp.size, fun k hlt hg => hkp.block k hlt fun hk => by
  obtain ⟨b, i, -, h4⟩ := hsub k hk
  exact hg (.inr ⟨b, h4⟩), fun _ _ hk => hk⟩
 have hr : Rel w0 m0 F X N st a w' m := by
  refine ⟨h.keeps.trans hkp fun i hy hi => ?_, h.fold, fun b k hb => ?_, h.uniq, h.size, fun t => (h.tmps t).keep ht, fun b blk hb => ?_, (h.defers.move ht.size ht.block ht.less), h.nam, h.small, fun g e he => (h.glob g e he).move ht.size ht.block ht.less⟩
  ·obtain ⟨b, j, -, h4⟩ := hsub i hy
   rcases (h.own b i h4).1 with h5 | h5
   ·omega
   ·exact h5
  ·have h5 := h.own b k hb
   exact ⟨h5.1, Nat.lt_of_lt_of_le h5.2.1 hkp.size, h5.2.2⟩
  ·cases hpb : pos S b with
   | none =>
    refine (h.blks b blk hb).keep ht fun k hk' => ?_
    have ho : owns m st.b b k := by unfold owns; rw [hb]; cases blk <;> exact hk'
    refine hkp.block k (h.own b k ho).2.1 fun hy => ?_
    obtain ⟨b', i, h3, h4⟩ := hsub k hy
    have := h.uniq _ _ _ ho h4
    subst this
    rw [hpb] at h3; simp at h3
   | some i =>
    have hSi := pos_some hpb
    obtain ⟨e, cells, hbx, hfc⟩ := hb3 b (List.mem_of_getElem? hSi)
    rw [hb] at hbx
    simp only [Option.some.injEq] at hbx
    subst hbx
    have hil : i < S.length := (List.getElem?_eq_some_iff.1 hSi).1
    obtain ⟨blk', hblk'⟩ : ∃ blk', β[i]? = some blk' := ⟨_, List.getElem?_eq_getElem (by omega)⟩
    obtain ⟨b', e', cells', h5, h6, h7, -⟩ := hb2 i blk' hblk'
    rw [hSi] at h5
    simp only [Option.some.injEq] at h5
    subst h5
    rw [hb] at h6
    simp only [Option.some.injEq] at h6
    subst h6
    have hn : nmF β [] (1024 + i) = some (.box e cells) := by
     unfold nmF
     rw [if_neg (by omega), if_pos (by omega), show 1024 + i - 1024 = i by omega]; exact hblk'
    obtain ⟨cs', h8, h9, h10⟩ := hp2.blks (1024 + i) _ hn
    have hmi : m2.i (1024 + i) = m.i b := by
     rw [hnam (1024 + i) (by omega) (by omega)]
     simp only [inM]
     rw [show 1024 + i - 1024 = i by omega, List.getD_eq_getElem?_getD, hSi]; rfl
    refine ⟨cs', by rw [<- hmi]; exact h8, h9, fun j v hj => ?_⟩
    obtain ⟨y, h11, h12, h13⟩ := h10 j v hj
    exact ⟨y, h11, h12, h13.flatC_any (List.all_eq_true.1 hfc v (List.mem_of_getElem? hj))⟩
 exact .inl ⟨x, rfl, hK x w' (hr.put o.dst v x hd.lt (hvx.flat_any hfl))⟩
theorem renCs_kp (l : List Cap) : renCs (kpI []) l = some l := by
 induction l with
 | nil => rfl
 | cons c l ih => cases c <;> simp [renCs, renC, kpI, pos, ih]
theorem kpR_row (b b' : Nat) : kpR [b] [] b' = if b' = b then none else some b' := by
 unfold kpR
 simp only [pos]
 by_cases h : b = b'
 ·simp [h]
 ·have h' : ¬ b' = b := fun h0 => h h0.symm
  simp [h, h']
theorem renFs_kp {b : Nat} : ∀ (l : List Fc), l.any (·.isR b) = false -> renFs (kpR [b] []) l = some l
 | [], _ => rfl
 | c :: l, h => by
  simp only [List.any_cons, Bool.or_eq_false_iff] at h
  have ih := renFs_kp l h.2
  cases c with
  | p x => simp [renFs, renF, ih]
  | nil c => simp [renFs, renF, ih]
  | row b' =>
   have hb : ¬ b' = b := by have := h.1; simpa [Fc.isR] using this
   simp [renFs, renF, ih, kpR_row, hb]
theorem RV0.weak {G : Nat -> Prop} {b : Nat} {v : V} {x : Value} (h : RV0 w G m (ren0 (kpI []) (kpR [b] []) v) x) : RV0 w G m (scr0 b v) x := by
 cases v with
 | ptr b' o =>
  by_cases hb : b' = b
  ·simp [scr0, hb, RV0]
  ·simpa [scr0, hb, ren0, kpI, pos] using h
 | eptr b' c i j =>
  by_cases hb : b' = b
  ·simp [scr0, hb, RV0]
  ·simpa [scr0, hb, ren0, kpR_row] using h
 | row b' =>
  by_cases hb : b' = b
  ·simp [scr0, hb, RV0]
  ·simpa [scr0, hb, ren0, kpR_row] using h
 | clo f caps =>
  by_cases hb : caps.any (·.isB b) = true
  ·simp [scr0, hb, RV0]
  ·simp only [scr0, if_neg hb]
   simpa only [ren0, renCs_kp] using h
 | ag l =>
  by_cases hb : l.any (·.isR b) = true
  ·simp [scr0, hb, RV0]
  ·simp only [scr0, if_neg hb]
   have : renFs (kpR [b] []) l = some l := renFs_kp l (by simpa using hb)
   simpa only [ren0, this] using h
 | suf b' c i =>
  by_cases hb : b' = b
  ·simp [scr0, hb, RV0]
  ·simpa [scr0, hb, ren0, kpR_row] using h
 | _ => exact h
theorem RV.weak {G : Nat -> Prop} {b : Nat} {v : V} {x : Value} (h : RV w G m (Av.ren (kpI []) (kpR [b] []) v) x) : RV w G m (scr b v) x := by
 cases v with
 | tup l =>
  obtain ⟨xs, hx, hs, hl⟩ := h
  refine ⟨xs, hx, by simpa using hs, fun i v hv => ?_⟩
  rw [List.getElem?_map] at hv
  cases hli : l[i]? with
  | none => rw [hli] at hv; simp at hv
  | some v0 =>
   rw [hli] at hv
   simp only [Option.map_some, Option.some.injEq] at hv
   obtain ⟨y, hy, hr⟩ := hl i (ren0 (kpI []) (kpR [b] []) v0) (by rw [List.getElem?_map, hli]; rfl)
   exact ⟨y, hy, hv ▸ RV0.weak hr⟩
 | ptr b' o =>
  refine RV.of0 (RV0.weak (v := .ptr b' o) ?_)
  simp only [Av.ren, ren0, kpI, pos] at h ⊢
  exact h
 | eptr b' c i j =>
  refine RV.of0 (RV0.weak (v := .eptr b' c i j) ?_)
  simp only [Av.ren, ren0, kpR_row] at h ⊢
  by_cases hb : b' = b
  ·simp only [hb, if_true]; trivial
  ·simp only [hb, if_false] at h ⊢; exact h
 | row b' =>
  refine RV.of0 (RV0.weak (v := .row b') ?_)
  simp only [Av.ren, ren0, kpR_row] at h ⊢
  by_cases hb : b' = b
  ·simp only [hb, if_true]; trivial
  ·simp only [hb, if_false] at h ⊢; exact h
 | suf b' c i =>
  refine RV.of0 (RV0.weak (v := .suf b' c i) ?_)
  simp only [Av.ren, ren0, kpR_row] at h ⊢
  by_cases hb : b' = b
  ·simp only [hb, if_true]; trivial
  ·simp only [hb, if_false] at h ⊢; exact h
 | clo f caps =>
  refine RV.of0 (RV0.weak (v := .clo f caps) ?_)
  simp only [Av.ren, ren0, renCs_kp] at h ⊢
  exact h
 | ag l =>
  refine RV.of0 (RV0.weak (v := .ag l) ?_)
  simp only [Av.ren, ren0] at h ⊢
  cases hr : renFs (kpR [b] []) l with
  | none => trivial
  | some l' => rw [hr] at h; exact h
 | p x => exact RV.of0 (v := .p x) h
 | nil c => exact RV.of0 (v := .nil c) h
 | full c l => exact RV.of0 (v := .full c l) h
 | rptr e j => exact RV.of0 (v := .rptr e j) h
 | junk => exact RV.of0 (v := .junk) h
theorem Gd_weak {F : Nat -> Prop} {m : Nm} {st : St} {b e c : Nat} {l : List (List PV)} {k : Nat} (h : Gd F m (fun b' => if b' = b then some (.row e c l) else (st.b b').map (scrB b)) k) : Gd F m (lv st [b] [] [] [.row e c l]).b k := by
 have hpos : ∀ b', pos [b] b' = if b' = b then some 0 else none := fun b' => by
  simp only [pos]
  by_cases h : b = b'
  ·subst h; simp
  ·have h' : ¬ b' = b := fun h0 => h h0.symm
   rw [if_neg h, if_neg h']
 have hlb : (lv st [b] [] [] [.row e c l]).b b = some (.row e c l) := by simp [lv, pos, renB]
 have hln : ∀ b', b' ≠ b -> (lv st [b] [] [] [.row e c l]).b b' = (st.b b').map (renB (kpI []) (kpR [b] [])) := fun b' hb => by
  simp only [lv, hpos, if_neg hb]; simp [pos]
 have ho : ∀ b' k, owns m (fun b' => if b' = b then some (.row e c l) else (st.b b').map (scrB b)) b' k ↔ owns m (lv st [b] [] [] [.row e c l]).b b' k := fun b' k => by
  unfold owns
  by_cases hb : b' = b
  ·subst hb
   simp only [if_true, hlb]
  ·rw [hln b' hb]
   simp only [if_neg hb]
   cases st.b b' with
   | none => simp
   | some blk => cases blk <;> simp [scrB, renB]
 unfold Gd at h ⊢
 rcases h with h | ⟨b', h⟩
 ·exact .inl h
 ·exact .inr ⟨b', (ho b' k).1 h⟩
theorem Rel.weak [Glob] {b e c : Nat} {l : List (List PV)} (h : Rel w0 m0 F X N (lv st [b] [] [] [.row e c l]) a w m) :
 Rel w0 m0 F X N ⟨fun t => scr b (st.s t), fun b' => if b' = b then some (.row e c l) else (st.b b').map (scrB b)⟩ a w m := by
 have hpos : ∀ b', pos [b] b' = if b' = b then some 0 else none := fun b' => by
  simp only [pos]
  by_cases h : b = b'
  ·subst h; simp
  ·have h' : ¬ b' = b := fun h0 => h h0.symm
   rw [if_neg h, if_neg h']
 have hlb : (lv st [b] [] [] [.row e c l]).b b = some (.row e c l) := by simp [lv, pos, renB]
 have hln : ∀ b', b' ≠ b -> (lv st [b] [] [] [.row e c l]).b b' = (st.b b').map (renB (kpI []) (kpR [b] [])) := fun b' hb => by
  simp only [lv, hpos, if_neg hb]; simp [pos]
 have ho : ∀ b' k, owns m (fun b' => if b' = b then some (.row e c l) else (st.b b').map (scrB b)) b' k ↔ owns m (lv st [b] [] [] [.row e c l]).b b' k := fun b' k => by
  unfold owns
  by_cases hb : b' = b
  ·subst hb
   simp only [if_true, hlb]
  ·rw [hln b' hb]
   simp only [if_neg hb]
   cases st.b b' with
   | none => simp
   | some blk => cases blk <;> simp [scrB, renB]
 have hG : Gd F m (fun b' => if b' = b then some (.row e c l) else (st.b b').map (scrB b)) = Gd F m (lv st [b] [] [] [.row e c l]).b := funext fun k => propext (by
  unfold Gd
  constructor <;> rintro (h | ⟨b', h⟩)
  ·exact .inl h
  ·exact .inr ⟨b', (ho b' k).1 h⟩
  ·exact .inl h
  ·exact .inr ⟨b', (ho b' k).2 h⟩)
 refine ⟨h.keeps, h.fold, fun b' k hb => h.own b' k ((ho b' k).1 hb), fun b' b'' k h1 h2 => h.uniq b' b'' k ((ho b' k).1 h1) ((ho b'' k).1 h2), h.size, fun t => ?_, fun b' blk hb => ?_, (hG ▸ h.defers), h.nam, h.small, fun g e he => ?_⟩
 ·rw [hG]; exact RV.weak (h.tmps t)
 ·rw [hG]
  by_cases hbb : b' = b
  ·subst hbb
   simp only [if_true, Option.some.injEq] at hb
   subst hb
   exact h.blks b' _ hlb
  ·simp only [if_neg hbb] at hb
   cases hs : st.b b' with
   | none => rw [hs] at hb; simp at hb
   | some blk0 =>
    rw [hs] at hb
    simp only [Option.map_some, Option.some.injEq] at hb
    subst hb
    have h1 := h.blks b' (renB (kpI []) (kpR [b] []) blk0) (by rw [hln b' hbb, hs]; rfl)
    cases blk0 with
    | row e' c' l' => exact h1
    | mp ks' l' => exact h1
    | box e' cells =>
     obtain ⟨cs, h2, h3, h4⟩ := h1
     refine ⟨cs, h2, by simpa using h3, fun j v hv => ?_⟩
     rw [List.getElem?_map] at hv
     cases hli : cells[j]? with
     | none => rw [hli] at hv; simp at hv
     | some v0 =>
      rw [hli] at hv
      simp only [Option.map_some, Option.some.injEq] at hv
      obtain ⟨y, h5, h6, h7⟩ := h4 j (ren0 (kpI []) (kpR [b] []) v0) (by rw [List.getElem?_map, hli]; rfl)
      exact ⟨y, h5, h6, hv ▸ RV0.weak h7⟩
 ·rw [hG]; exact h.glob g e he
theorem RP.empty {w : World} {G G' : Nat -> Prop} {c : Nat} {x : Value} (h : RP w G (.sl c []) x) : RP w G' (.sl c []) x := by
 cases h with
 | nil => exact .nil _
 | emp c a => exact .emp _ _
 | sl c l k off cap u hlen hm hk hc hone hcell hr =>
  exact .sl c [] k off cap u hlen hm (fun h => absurd rfl h) (fun i e hi => by simp at hi) (fun i e j p hi => by simp at hi) (fun i e j p hi => by simp at hi) (fun i e j p hi => by simp at hi)
theorem RB.flat {w : World} {G G' : Nat -> Prop} {m : Nm} {b e c : Nat} {l : List (List PV)} (hf : flatL l = true) (h : RB w G m b (.row e c l)) : RB w G' m b (.row e c l) := by
 rcases h with ⟨h0, ha, hl⟩ | ⟨k, cap, cur, hr, hc0, hlc, hcm, hh, hs, hl⟩
 ·exact .inl ⟨h0.empty, ha, hl⟩
 ·refine .inr ⟨k, cap, cur, hr, hc0, hlc, hcm, hh, hs, fun i el hi => ⟨(hl i el hi).1, fun j p hj => ?_⟩⟩
  obtain ⟨ho, u, hx, hrp⟩ := (hl i el hi).2 j p hj
  refine ⟨ho, u, hx, ?_⟩
  have hfe := List.all_eq_true.1 (List.all_eq_true.1 hf el (List.mem_of_getElem? hi)) p (List.mem_of_getElem? hj)
  cases p with
  | v x => cases hrp with
   | v x h => exact .v _ h
  | _ => simp at hfe
theorem Hp.lent [Glob] (h : Rel w0 m0 F X N st a w m) {vs : List V} {w' : World} {m2 : Nm} {e c : Nat} {l : List (List PV)} (hf : flatL l = true) (hk : Keeps (fun k => ∃ n, owns (inM m []) (nmF [] []) n k) w w')
 (hp : Hp w' (LentF F m st vs) m2 (nmF [] [.row e c l])) (hown : ∀ n k, owns m2 (nmF [] [.row e c l]) n k -> w.heap.size <= k \/ ∃ n, owns (inM m []) (nmF [] []) n k) : Hp w' (RestF F m st []) m2 (nmF [] [.row e c l]) := by
 have hfresh : ∀ n k, owns m2 (nmF [] [.row e c l]) n k -> w.heap.size <= k := fun n k ho => by
  rcases hown n k ho with h1 | ⟨n', h1⟩
  ·exact h1
  ·simp [owns, nmF_nil] at h1
 have hrest : ∀ k, RestF F m st [] k -> Gd F m st.b k := fun k hk => by
  rcases hk with h1 | ⟨b, -, h1⟩
  ·exact .inl h1
  ·exact .inr ⟨b, h1⟩
 have hno : ∀ k, ¬ ∃ n, owns (inM m []) (nmF [] []) n k := fun k ⟨n, h1⟩ => by simp [owns, nmF_nil] at h1
 refine ⟨fun k hk' => Nat.lt_of_lt_of_le (h.gd_lt k (hrest k hk')) hk.size, fun b k ho => ⟨(hp.own b k ho).1, fun hr => ?_⟩, hp.uniq, fun b blk hb => ?_, fun g e' he => ?_⟩
 ·have h1 := h.gd_lt k (hrest k hr)
  have h2 := hfresh b k ho
  omega
 ·have h1 := hp.blks b blk hb
  have hblk : blk = .row e c l := by
   unfold nmF at hb
   split at hb
   ·simp at hb
   ·split at hb
    ·simp at hb
    ·have : ([.row e c l] : List Blk)[b - 2048]? = some blk := hb
     cases hb' : b - 2048 with
     | zero => rw [hb'] at this; simp at this; exact this.symm
     | succ n => rw [hb'] at this; simp at this
  subst hblk
  exact h1.flat hf
 ·refine (h.glob g e' he).move hk.size (fun k hk1 hk2 => hk.block k hk1 (hno k)) fun k hk1 hg => ?_
  rcases hg with h1 | ⟨n, h1⟩
  ·exact hrest k h1
  ·have := hfresh n k h1
   omega
theorem Rel.swap [Glob] (h : Rel w0 m0 F X N st a w m) {st2 : St} (hs : st2.s = st.s)
 (hb : ∀ b, st2.b b = st.b b \/ ∃ e cells cells2, st.b b = some (.box e cells) /\ st2.b b = some (.box e cells2) /\ cells2.length = cells.length /\ ∀ (j : Nat) (v2 : V), cells2[j]? = some v2 -> ∃ v, cells[j]? = some v /\ ∀ G x, RV0 w G m v x -> RV0 w G m v2 x) :
 Rel w0 m0 F X N st2 a w m := by
 have ho : ∀ b k, owns m st2.b b k ↔ owns m st.b b k := fun b k => by
  unfold owns
  rcases hb b with h1 | ⟨e, cells, cells2, h1, h2, -, -⟩
  ·rw [h1]
  ·rw [h1, h2]
 have hG : Gd F m st2.b = Gd F m st.b := by
  funext k
  unfold Gd
  simp only [ho]
 refine ⟨h.keeps, h.fold, fun b k hk => h.own b k ((ho b k).1 hk), fun b b' k h1 h2 => h.uniq b b' k ((ho b k).1 h1) ((ho b' k).1 h2), h.size, fun t => by rw [hG, hs]; exact h.tmps t, fun b blk hbb => ?_, by rw [hG]; exact h.defers, h.nam, h.small, fun g e he => by rw [hG]; exact h.glob g e he⟩
 rw [hG]
 rcases hb b with h1 | ⟨e, cells, cells2, h1, h2, h3, h4⟩
 ·exact h.blks b blk (h1 ▸ hbb)
 ·rw [h2] at hbb
  simp only [Option.some.injEq] at hbb
  subst hbb
  obtain ⟨cs, g1, g2, g3⟩ := h.blks b _ h1
  refine ⟨cs, g1, by rw [g2, h3], fun j v2 hj => ?_⟩
  obtain ⟨v, hv, hi⟩ := h4 j v2 hj
  obtain ⟨x, x1, x2, x3⟩ := g3 j v hv
  exact ⟨x, x1, x2, hi _ _ x3⟩
theorem Rel.stX [Glob] (h : Rel w0 m0 F X N st a w m) (S : List Nat) (b0 : Nat) (hx : scal (m.r b0) = true) : Rel w0 m0 F X N (Av.stX st S b0 (m.r b0)) a w m := by
 refine h.swap rfl fun b => ?_
 by_cases hS : b ∈ S
 ·cases hbb : st.b b with
  | none => exact .inl (by simp [Av.stX, hS, hbb])
  | some blk =>
   cases blk with
   | row e c l => exact .inl (by simp [Av.stX, hS, hbb, subB])
   | mp ks l => exact .inl (by simp [Av.stX, hS, hbb, subB])
   | box e cells =>
    refine .inr ⟨e, cells, cells.map (sub0 b0 (.v (m.r b0))), rfl, by simp [Av.stX, hS, hbb, subB], by simp, fun j v2 hj => ?_⟩
    rw [List.getElem?_map] at hj
    cases hv : cells[j]? with
    | none => rw [hv] at hj; simp at hj
    | some v =>
     rw [hv] at hj
     simp only [Option.map_some, Option.some.injEq] at hj
     subst hj
     exact ⟨v, rfl, fun G x hr => RV0.sub ⟨Nat.le_refl _, fun _ _ _ => rfl, fun k _ hg => hg⟩ hr b0 _ (.v _ hx)⟩
 ·exact .inl (by simp [Av.stX, hS])
theorem ouN_last {S : List Nat} (hSl : S.length <= 1023) : ouN S [] 2047 = none := by
 unfold ouN
 rw [if_neg (by omega), if_pos (by omega), List.getElem?_eq_none (by omega)]
theorem reX_run {w : World} {G : Nat -> Prop} {m : Nm} {S : List Nat} {b0 : Nat} (hSl : S.length <= 1023) {v : V} {x : Value} (h : RV0 w G m (ren0 (ouN S []) (ouN S []) (sub0 2047 (.v (m.r b0)) v)) x) : RV0 w G m (reX S b0 v) x := by
 cases v with
 | row n =>
  by_cases hn : n = 2047
  ·subst hn
   simp only [sub0, reduceIte, ren0] at h
   simp only [reX, reduceIte, RV0]
   cases h
   rfl
  ·simp only [sub0, if_neg hn] at h
   simp only [reX, if_neg hn]
   exact h
 | ag l => trivial
 | eptr n c i j =>
  by_cases hn : n = 2047
  ·subst hn
   simp only [reX, ren0, ouN_last hSl]
   trivial
  ·simp only [sub0, if_neg hn] at h
   exact h
 | suf n c i =>
  by_cases hn : n = 2047
  ·subst hn
   simp only [reX, ren0, ouN_last hSl]
   trivial
  ·simp only [sub0, if_neg hn] at h
   exact h
 | p _ => exact h
 | nil _ => exact h
 | full _ _ => exact h
 | ptr _ _ => exact h
 | rptr _ _ => exact h
 | clo _ _ => exact h
 | tup _ => exact h
 | junk => exact h
theorem Rel.lvX [Glob] {S : List Nat} {b0 : Nat} (hSl : S.length <= 1023) {x0 : Value} {β3 : List Blk} (h : Rel w0 m0 F X N (lv (Av.stX st S b0 x0) S [] [] (β3.map (subB 2047 (.v x0)))) a w m) (hx : m.r b0 = x0) : Rel w0 m0 F X N (Av.lvX st S b0 β3) a w m := by
 refine h.swap rfl fun b => ?_
 cases hp : pos S b with
 | none =>
  have hb := pos_none hp
  exact .inl (by simp [Av.lvX, lv, hp, pos, Av.stX, hb])
 | some i =>
  cases hi : β3[i]? with
  | none => exact .inl (by simp [Av.lvX, lv, hp, pos, hi])
  | some blk =>
   cases blk with
   | row e c l => exact .inl (by simp [Av.lvX, lv, hp, pos, hi, subB, renB, reXB])
   | mp ks l => exact .inl (by simp [Av.lvX, lv, hp, pos, hi, subB, renB, reXB])
   | box e cells =>
    refine .inr ⟨e, (cells.map (sub0 2047 (.v x0))).map (ren0 (ouN S []) (ouN S [])), cells.map (reX S b0), by simp [lv, hp, pos, hi, subB, renB], by simp [Av.lvX, hp, hi, reXB], by simp, fun j v2 hj => ?_⟩
    rw [List.getElem?_map] at hj
    cases hv : cells[j]? with
    | none => rw [hv] at hj; simp at hj
    | some v =>
     rw [hv] at hj
     simp only [Option.map_some, Option.some.injEq] at hj
     subst hj
     refine ⟨ren0 (ouN S []) (ouN S []) (sub0 2047 (.v x0) v), by simp [hv], fun G x hr => ?_⟩
     subst hx
     exact reX_run hSl hr
theorem owns_stX (st : St) (S : List Nat) (b0 : Nat) (x : Value) (m : Nm) (b k : Nat) : owns m (stX st S b0 x).b b k ↔ owns m st.b b k := by
 unfold owns stX
 simp only
 by_cases hbS' : b ∈ S
 ·rw [if_pos hbS']
  cases st.b b with
  | none => simp
  | some blk => cases blk <;> simp [subB]
 ·rw [if_neg hbS']
theorem Gd_stX (st : St) (S : List Nat) (b0 : Nat) (x : Value) (F : Nat -> Prop) (m : Nm) : Gd F m (stX st S b0 x).b = Gd F m st.b := by
 funext k
 unfold Gd
 simp only [owns_stX]
def okX (b0 : Nat) : V -> Bool
 | .p _ => true
 | .row b => b == b0
 | _ => false
def nameless : V -> Bool
 | .p _ => true
 | .clo _ caps => caps.all fun | .box _ => false | _ => true
 | _ => false
theorem nameless_run {w : World} {G G' : Nat -> Prop} {m m' : Nm} {v : V} {x : Value} (hv : nameless v = true) (hG : ∀ k, G' k -> G k) (h : RV w G m v x) : RV w G' m' v x := by
 cases v with
 | p p => exact RP.mono hG h
 | clo f caps =>
  obtain ⟨cs, h1, h2, h3⟩ := h
  refine ⟨cs, h1, h2, fun i c hi => ?_⟩
  obtain ⟨y, h4, h5⟩ := h3 i c hi
  have hc := List.all_eq_true.1 hv c (List.mem_of_getElem? hi)
  cases c with
  | box b => simp at hc
  | val p => exact ⟨y, h4, RP.mono hG h5⟩
  | rp e j =>
   obtain ⟨k, off, h6, h7⟩ := h5
   exact ⟨y, h4, k, off, h6, h7.move (Nat.le_refl _) (fun _ _ _ => rfl) fun k _ hg => hG k hg⟩
 | _ => simp [nameless] at hv
theorem okX_ren {b0 : Nat} {q : PV} {r s : Nat -> Option Nat} : ∀ {cells : List V}, cells.all (okX b0) = true -> (cells.map (sub0 b0 q)).map (ren0 r s) = cells.map (sub0 b0 q)
 | [], _ => rfl
 | v :: l, h => by
  simp only [List.all_cons, Bool.and_eq_true] at h
  simp only [List.map_cons, okX_ren h.2, List.cons.injEq, and_true]
  cases v with
  | p p => rfl
  | row b =>
   have hb : b = b0 := by simpa [okX] using h.1
   simp [sub0, hb, ren0]
  | _ => simp [okX] at h
theorem call_run_box [Glob] (h : Rel w0 m0 F X N st a w m) {o : Oper} {f : Operand} {as : Array Operand} {ts : Array TypeId} (ho : o.op = .call { callee := .value f, args := as, argTypes := ts }) {g : FuncId} {cs : List V} {mv : Bool} (hf : calleeOf (evO st f) = some (g, cs, mv)) (hd : dstOK N o.dst)
 {b b0 : Nat} {e : TypeId} {cells : List V} {er : TypeId} {cr : Nat} {lr : List (List PV)} {us : List V} {v : V} (hb : st.b b = some (.box e cells)) (hr : st.b b0 = some (.row er cr lr)) (hok : cells.all (okX b0) = true) (hus : argsG T [b] (catT mv cs ts.toList) (cat mv (as.toList.map (evO st)) cs) = some us)
 (hc : ∀ x, scal x = true -> Con P g us [.box e (cells.map (sub0 b0 (.v x)))] (.ret v [] [.box e (cells.map (sub0 b0 (.v x)))])) (hn : nameless v = true) {K' : Act -> World -> Prop} {Q : Exit -> Act -> World -> Prop}
 (hK : ∀ x w', Rel w0 m0 F X N ⟨putS st.s o.dst v, st.b⟩ (a.put o.dst x) w' m -> K' (a.put o.dst x) w') : o.wp P a w K' Q := by
 have hx : scal (m.r b0) = true := by
  rcases h.blks b0 _ hr with ⟨-, ⟨a', h0⟩, -⟩ | ⟨k, cap, cur, hv, -⟩
  ·rw [h0]; rfl
  ·rw [hv]; rfl
 have hX := h.stX [b] b0 hx
 have hGX := Gd_stX st [b] b0 (m.r b0) F m
 obtain ⟨cx, hfe, hcl, hcx⟩ := callee_run h hf
 have hargs := hargs_of h as (mv := mv) hcl hcx
 have hlen : (cat mv (as.toList.map a.eval) cx).length = (cat mv (as.toList.map (evO st)) cs).length := by rw [cat_length, cat_length, hcl]; simp
 have hβ : blksOf (stX st [b] b0 (m.r b0)) (inN [b]) [b] = some [.box e (cells.map (sub0 b0 (.v (m.r b0))))] := by
  have hsb : (stX st [b] b0 (m.r b0)).b b = some (.box e (cells.map (sub0 b0 (.v (m.r b0))))) := by simp [stX, hb, subB]
  simp only [blksOf, hsb, renB, okX_ren hok]
 obtain ⟨hp, hent, hG⟩ := hX.enter (S := [b]) (by simp) hβ
 rw [hGX] at hG
 obtain ⟨h1, h2⟩ := argsG_run (w := w) (m := m) (G := Gd F m st.b) (G' := Gd (RestF F m (stX st [b] b0 (m.r b0)) [b]) (inM m [b]) (nmF [.box e (cells.map (sub0 b0 (.v (m.r b0))))] [])) hG hus hlen hargs
 have hcall := hc (m.r b0) hx (RestF F m (stX st [b] b0 (m.r b0)) [b]) w (inM m [b]) _ hp (by rw [hlen, h1]) h2
 refine wp_callC ho hfe hcall fun e' w' ⟨hkp, hout⟩ => ?_
 obtain ⟨x, m2, rfl, hp2, hown, hnam, hvx⟩ := hout
 have hpos : ∀ b', pos [b] b' = if b' = b then some 0 else none := fun b' => by
  simp only [pos]
  by_cases h : b = b'
  ·subst h; simp
  ·have h' : ¬ b' = b := fun h0 => h h0.symm
   rw [if_neg h, if_neg h']
 have hmi : m2.i 1024 = m.i b := by rw [hnam 1024 (by omega) (by omega)]; simp [inM]
 have hkp' : Keeps (fun k => owns m st.b b k) w w' := hkp.mono fun k ⟨n, hn⟩ => by
  obtain ⟨b', h3, -, -, h4⟩ := hent n k hn
  rw [hpos] at h3
  split at h3
  ·rename_i hbb; subst hbb; exact (owns_stX ..).1 h4
  ·simp at h3
 have hgd : ∀ k, Gd F m st.b k -> Gd (RestF F m (stX st [b] b0 (m.r b0)) [b]) m2 (nmF [.box e (cells.map (sub0 b0 (.v (m.r b0))))] []) k := fun k hg => by
  rcases hg with hg | ⟨b', hg⟩
  ·exact .inl (.inl hg)
  ·by_cases hbb : b' = b
   ·rw [hbb] at hg
    refine .inr ⟨1024, ?_⟩
    simp only [owns, hb] at hg
    have e1 : nmF [Blk.box e (cells.map (sub0 b0 (.v (m.r b0))))] [] 1024 = some (.box e (cells.map (sub0 b0 (.v (m.r b0))))) := by simp [nmF]
    simp only [owns, e1, hmi]
    exact hg
   ·exact .inl (.inr ⟨b', by rw [hpos, if_neg hbb], (owns_stX ..).2 hg⟩)
 have hbk : RB w' (Gd F m st.b) m b (.box e cells) := by
  obtain ⟨cs', g1, g2, g3⟩ := hp2.blks 1024 (.box e (cells.map (sub0 b0 (.v (m.r b0))))) (by simp [nmF])
  rw [hmi] at g1
  refine ⟨cs', g1, by simpa using g2, fun j u hj => ?_⟩
  obtain ⟨y, y1, y2, y3⟩ := g3 j (sub0 b0 (.v (m.r b0)) u) (by rw [List.getElem?_map, hj]; rfl)
  refine ⟨y, y1, y2, ?_⟩
  have hu := List.all_eq_true.1 hok u (List.mem_of_getElem? hj)
  cases u with
  | p p => exact RP.mono hgd y3
  | row b' =>
   have hb' : b' = b0 := by simpa [okX] using hu
   subst hb'
   simp only [sub0, if_pos] at y3
   cases y3
   rfl
  | _ => simp [okX] at hu
 have h5 := h.store hb (blk' := .box e cells) (by simp [Blk.like]) hkp' hbk
 have hfun : (fun b' => if b' = b then some (Blk.box e cells) else st.b b') = st.b := by
  funext b'
  by_cases hbb : b' = b
  ·rw [if_pos hbb, hbb, hb]
  ·rw [if_neg hbb]
 rw [hfun] at h5
 exact .inl ⟨x, rfl, hK x w' (h5.put o.dst v x hd.lt (nameless_run hn hgd hvx))⟩
theorem call_run [Glob] (h : Rel w0 m0 F X N st a w m) {o : Oper} {f : Operand} {as : Array Operand} {ts : Array TypeId} (ho : o.op = .call { callee := .value f, args := as, argTypes := ts }) {g : FuncId} {cs : List V} {mv : Bool} (hf : calleeOf (evO st f) = some (g, cs, mv)) (hd : dstOK N o.dst)
 {K : St -> Prop} {Z : Value -> St -> Prop} (hv : CallK P T st o.dst g (catT mv cs ts.toList) (cat mv (as.toList.map (evO st)) cs) K Z) {K' : Act -> World -> Prop} {Q : Exit -> Act -> World -> Prop} (hK : ∀ st' a' w' m', K st' -> Rel w0 m0 F X N st' a' w' m' -> K' a' w')
 (hZ : ∀ y st' w' m', Z y st' -> Rel w0 m0 F X N st' a w' m' -> Q (.panic [{ v := y, recovered := false }]) a w') : o.wp P a w K' Q := by
 have gen : ∀ {S : List Nat} {us : List V} {β : List Blk} {out : Out}, S.Nodup -> S.length <= 1024 -> blksOf st (inN S) S = some β -> argsG T S (catT mv cs ts.toList) (cat mv (as.toList.map (evO st)) cs) = some us -> Con P g us β out -> GenK st o.dst S K Z out -> o.wp P a w K' Q := fun {S us β out} hS hSl hβ hus hc hk => by
  obtain ⟨cx, hfe, hcl, hcx⟩ := callee_run h hf
  have hargs := hargs_of h as (mv := mv) hcl hcx
  have hlen : (cat mv (as.toList.map a.eval) cx).length = (cat mv (as.toList.map (evO st)) cs).length := by rw [cat_length, cat_length, hcl]; simp
  obtain ⟨hp, hent, hG⟩ := h.enter hS hβ
  obtain ⟨h1, h2⟩ := argsG_run (w := w) (m := m) (G := Gd F m st.b) (G' := Gd (RestF F m st S) (inM m S) (nmF β [])) hG hus hlen hargs
  have hcall := hc (RestF F m st S) w (inM m S) _ hp (by rw [hlen, h1]) h2
  refine wp_callC ho hfe hcall fun e w' ⟨hkp, hout⟩ => ?_
  cases out with
  | ret v R β2 =>
   obtain ⟨A, hA, hAS, hk⟩ := hk
   obtain ⟨x, m2, rfl, hp2, hown, hnam, hvx⟩ := hout
   obtain ⟨h3, h4⟩ := h.leave hS hSl hA hAS hβ hkp hp2 hown hnam
   exact .inl ⟨x, rfl, hK _ _ _ _ hk (h3.put o.dst _ x hd.lt (h4 v x hvx))⟩
  | pan y β2 =>
   obtain ⟨m2, rfl, hp2, hown, hnam⟩ := hout
   obtain ⟨h3, -⟩ := h.leave hS hSl (A := []) List.nodup_nil (fun b hb => by simp at hb) hβ hkp hp2 hown hnam
   exact .inr ⟨y, rfl, hZ _ _ _ _ hk h3⟩
 rcases hv with ⟨us, v, hus, hc, hpv, hk⟩ | ⟨us, d', e, c, l, hus, hd', hc, hk⟩ | ⟨us, v, hus, hc, hpv, hk⟩ | ⟨us, y, hus, hc, hk⟩ | ⟨S, us, β, out, hS, hSl, hβ, hus, hc, hk⟩ | ⟨S, us, β, v, hS, hSl, hβ, hus, hc, hfl, hk⟩ | ⟨b, us, d', e0, c0, l0, e, c, l, hd', hb, hus, x0, y0, hxy, hc, hk⟩ | ⟨b, us, e, c, l0, l1, v, hb, hus, hc, hfl, hk⟩ | ⟨us, v, hus, hc, hpv, hk⟩ | ⟨b0, S, us, e, c, l, β, β3, v, hS, hSl, hbS, hb, hβ, hus, hc, hfl, hk⟩
 ·exact call_run_pure h ho hf hd (.inl ⟨hus, hpv⟩) hc fun x w' hr => hK _ _ _ m hk hr
 ·rcases hus with hus | ⟨hus, hfl⟩
  ·obtain ⟨cx, hfe, hcl, hcx⟩ := callee_run h hf
   have hargs := hargs_of h as (mv := mv) hcl hcx
   have hlen : (cat mv (as.toList.map a.eval) cx).length = (cat mv (as.toList.map (evO st)) cs).length := by rw [cat_length, cat_length, hcl]; simp
   obtain ⟨hp, hent, hG⟩ := h.enter (S := []) List.nodup_nil (β := []) rfl
   obtain ⟨h1, h2⟩ := argsP_run (w := w) (G := Gd F m st.b) (G' := Gd (RestF F m st []) (inM m []) (nmF [] [])) (m := m) hG (inM m []) (xs := cat mv (as.toList.map a.eval) cx) hus hlen hargs
   have hcall := hc (RestF F m st []) w (inM m []) _ hp (by rw [hlen, h1]) h2
   refine wp_callC ho hfe hcall fun e' w' ⟨hkp, hout⟩ => ?_
   obtain ⟨x, m2, rfl, hp2, hown, hnam, hvx⟩ := hout
   rw [hd'] at hd ⊢
   have hdlt : d' < 1024 := Nat.lt_of_lt_of_le hd.1 h.small.1
   obtain ⟨h3, h4⟩ := h.leave (S := []) (A := [d']) List.nodup_nil (by simp) (by simp) (fun b hb => by simp at hb; subst hb; exact ⟨by simp, .inl hdlt⟩) (β := []) rfl hkp hp2 hown hnam
   have h5 := h3.put (some d') _ x hd.lt (h4 _ x hvx)
   rw [show ren (ouN [] [d']) (ouN [] [d']) (.row 2048) = .row d' from rfl, lv_one] at h5
   exact .inl ⟨x, rfl, hK _ _ _ _ hk h5⟩
  ·obtain ⟨cx, hfe, hcl, hcx⟩ := callee_run h hf
   have hargs := hargs_of h as (mv := mv) hcl hcx
   have hlen : (cat mv (as.toList.map a.eval) cx).length = (cat mv (as.toList.map (evO st)) cs).length := by rw [cat_length, cat_length, hcl]; simp
   obtain ⟨h1, h2⟩ := argsB_run h (inM m []) _ (xs := cat mv (as.toList.map a.eval) cx) hus hlen (fun v hv => hv) hargs
   have hcall := hc (LentF F m st (cat mv (as.toList.map (evO st)) cs)) w (inM m []) _ (Hp.none (fun k hk => h.gd_lt k hk.1) nmF_nil fun g e he => (h.glob g e he).less fun k hk => hk.1) (by rw [hlen, h1]) (fun i v hi => by
    obtain ⟨x, h3, h4⟩ := h2 i v hi
    exact ⟨x, h3, h4.keep ⟨Nat.le_refl _, fun _ _ _ => rfl, fun k _ hg => Gd_nil hg⟩⟩)
   refine wp_callC ho hfe hcall fun e' w' ⟨hkp, hout⟩ => ?_
   obtain ⟨x, m2, rfl, hp2, hown, hnam, hvx⟩ := hout
   have hp3 := Hp.lent h hfl hkp hp2 hown
   rw [hd'] at hd ⊢
   have hdlt : d' < 1024 := Nat.lt_of_lt_of_le hd.1 h.small.1
   obtain ⟨h3, h4⟩ := h.leave (S := []) (A := [d']) List.nodup_nil (by simp) (by simp) (fun b hb => by simp at hb; subst hb; exact ⟨by simp, .inl hdlt⟩) (β := []) rfl hkp hp3 hown hnam
   have hvx' : x = m2.r 2048 := hvx
   have h5 := h3.put (some d') _ x hd.lt (h4 (.row 2048) x (.of0 (v := .row 2048) hvx'))
   rw [show ren (ouN [] [d']) (ouN [] [d']) (.row 2048) = .row d' from rfl, lv_one] at h5
   exact .inl ⟨x, rfl, hK _ _ _ _ hk h5⟩
 ·exact call_run_pure h ho hf hd (.inr ⟨hus, hpv⟩) hc fun x w' hr => hK _ _ _ m hk hr
 ·obtain ⟨cx, hfe, hcl, hcx⟩ := callee_run h hf
  have hargs := hargs_of h as (mv := mv) hcl hcx
  have hlen : (cat mv (as.toList.map a.eval) cx).length = (cat mv (as.toList.map (evO st)) cs).length := by rw [cat_length, cat_length, hcl]; simp
  obtain ⟨h1, h2⟩ := argsB_run h m _ (xs := cat mv (as.toList.map a.eval) cx) hus hlen (fun v hv => hv) hargs
  have hcall := hc (LentF F m st (cat mv (as.toList.map (evO st)) cs)) w m _ (Hp.none (fun k hk => h.gd_lt k hk.1) nmF_nil fun g e he => (h.glob g e he).less fun k hk => hk.1) (by rw [hlen, h1]) (fun i v hi => by
   obtain ⟨x, h3, h4⟩ := h2 i v hi
   exact ⟨x, h3, h4.keep ⟨Nat.le_refl _, fun _ _ _ => rfl, fun k _ hg => Gd_nil hg⟩⟩)
  refine wp_callC ho hfe hcall fun e w' ⟨hkp, hout⟩ => ?_
  obtain ⟨m2, rfl, -⟩ := hout
  exact .inr ⟨y, rfl, hZ _ _ _ _ hk (h.world (hkp.mono fun k ⟨n, hh⟩ => by simp [owns, nmF_nil] at hh))⟩
 ·exact gen hS hSl hβ hus hc hk
 ·exact call_read h ho hf hd hS hSl hβ hus hc hfl fun x w' hr => hK _ _ _ m hk hr
 ·obtain ⟨cx, hfe, hcl, hcx⟩ := callee_run h hf
  have hargs := hargs_of h as (mv := mv) hcl hcx
  have hlen : (cat mv (as.toList.map a.eval) cx).length = (cat mv (as.toList.map (evO st)) cs).length := by rw [cat_length, cat_length, hcl]; simp
  have hβ : blksOf st (inN [b]) [b] = some [.row e0 c0 l0] := by simp [blksOf, hb, renB]
  obtain ⟨hp, hent, hG⟩ := h.enter (S := [b]) (by simp) hβ
  obtain ⟨h1, h2⟩ := argsG_run (w := w) (m := m) (G := Gd F m st.b) (G' := Gd (RestF F m st [b]) (inM m [b]) (nmF [.row e0 c0 l0] [])) hG hus hlen hargs
  have hcall := hc (RestF F m st [b]) w (inM m [b]) _ hp (by rw [hlen, h1]) h2
  refine wp_callC ho hfe hcall fun e' w' ⟨hkp, hout⟩ => ?_
  obtain ⟨x, m2, rfl, hp2, hown, hnam, hvx⟩ := hout
  rw [hd'] at hd ⊢
  obtain ⟨h3, h4⟩ := h.leave (S := [b]) (A := []) (by simp) (by simp) (by simp) (fun b hb => by simp at hb) hβ hkp hp2 hown hnam
  have hx := h4 _ x hvx
  rcases hxy with ⟨rfl, rfl⟩ | ⟨p, rfl, rfl⟩
  ·rw [show ren (ouN [b] []) (ouN [b] []) (.row 1024) = .row b from rfl] at hx
   exact .inl ⟨x, rfl, hK _ _ _ _ hk (h3.weak.put (some d') (.row b) x hd.lt (.of0 (v := .row b) hx))⟩
  ·rw [show ren (ouN [b] []) (ouN [b] []) (.p p) = .p p from rfl] at hx
   exact .inl ⟨x, rfl, hK _ _ _ _ hk (h3.weak.put (some d') (.p p) x hd.lt (RP.mono (fun k hk => Gd_weak hk) hx))⟩
 ·obtain ⟨cx, hfe, hcl, hcx⟩ := callee_run h hf
  have hargs := hargs_of h as (mv := mv) hcl hcx
  have hlen : (cat mv (as.toList.map a.eval) cx).length = (cat mv (as.toList.map (evO st)) cs).length := by rw [cat_length, cat_length, hcl]; simp
  have hβ : blksOf st (inN [b]) [b] = some [.row e c l0] := by simp [blksOf, hb, renB]
  obtain ⟨hp, hent, hG⟩ := h.enter (S := [b]) (by simp) hβ
  obtain ⟨h1, h2⟩ := argsG_run (w := w) (m := m) (G := Gd F m st.b) (G' := Gd (RestF F m st [b]) (inM m [b]) (nmF [.row e c l0] [])) hG hus hlen hargs
  have hcall := hc (RestF F m st [b]) w (inM m [b]) _ hp (by rw [hlen, h1]) h2
  refine wp_callC ho hfe hcall fun e' w' ⟨hkp, hout⟩ => ?_
  obtain ⟨x, rfl, hp2, hvx⟩ := hout
  have hpos : ∀ b', pos [b] b' = if b' = b then some 0 else none := fun b' => by
   simp only [pos]
   by_cases h : b = b'
   ·subst h; simp
   ·have h' : ¬ b' = b := fun h0 => h h0.symm
    rw [if_neg h, if_neg h']
  have hmr : (inM m [b]).r 1024 = m.r b := by simp [inM]
  have hkp' : Keeps (fun k => owns m st.b b k) w w' := hkp.mono fun k ⟨n, hn⟩ => by
   obtain ⟨b', h3, -, -, h4⟩ := hent n k hn
   rw [hpos] at h3
   split at h3
   ·rename_i hbb; subst hbb; exact h4
   ·simp at h3
  have hgd : ∀ k, Gd F m st.b k -> Gd (RestF F m st [b]) (inM m [b]) (nmF [.row e c l1] []) k := fun k hg => by
   rcases hg with hg | ⟨b', hg⟩
   ·exact .inl (.inl hg)
   ·by_cases hbb : b' = b
    ·rw [hbb] at hg
     refine .inr ⟨1024, ?_⟩
     simp only [owns, hb] at hg
     have e1 : nmF [Blk.row e c l1] [] 1024 = some (.row e c l1) := by simp [nmF]
     simp only [owns, e1, hmr]
     exact hg
    ·exact .inl (.inr ⟨b', by rw [hpos, if_neg hbb], hg⟩)
  have hbk : RB w' (Gd F m st.b) m b (.row e c l1) := by
   have h5 := hp2.blks 1024 (.row e c l1) (by simp [nmF])
   have h6 := h5.keep (w' := w') (G' := Gd F m st.b) ⟨Nat.le_refl _, fun _ _ _ => rfl, fun k _ hk => hgd k hk⟩ fun _ _ => rfl
   simp only [RB] at h6 ⊢
   rw [hmr] at h6
   exact h6
  exact .inl ⟨x, rfl, hK _ _ _ _ hk ((h.store hb (blk' := .row e c l1) trivial hkp' hbk).put o.dst v x hd.lt (hvx.flatW hfl fun k hk => hgd k ((Gd_set hb (blk' := .row e c l1) trivial k).1 hk)))⟩
 ·exact call_run_lentA h ho hf hd hus hpv hc fun x w' hr => hK _ _ _ m hk hr
 ·have hx : scal (m.r b0) = true := by
   rcases h.blks b0 _ hb with ⟨-, ⟨a', h0⟩, -⟩ | ⟨k, cap, cur, hv, -⟩
   ·rw [h0]; rfl
   ·rw [hv]; rfl
  have hX := h.stX S b0 hx
  have hGX := Gd_stX st S b0 (m.r b0) F m
  obtain ⟨cx, hfe, hcl, hcx⟩ := callee_run h hf
  have hargs := hargs_of h as (mv := mv) hcl hcx
  have hlen : (cat mv (as.toList.map a.eval) cx).length = (cat mv (as.toList.map (evO st)) cs).length := by rw [cat_length, cat_length, hcl]; simp
  obtain ⟨hp, hent, hG⟩ := hX.enter hS (hβ (m.r b0))
  rw [hGX] at hG
  obtain ⟨h1, h2⟩ := argsG_run (w := w) (m := m) (G := Gd F m st.b) (G' := Gd (RestF F m (stX st S b0 (m.r b0)) S) (inM m S) (nmF (β (m.r b0)) [])) hG hus hlen hargs
  have hcall := hc (m.r b0) hx (RestF F m (stX st S b0 (m.r b0)) S) w (inM m S) _ hp (by rw [hlen, h1]) h2
  refine wp_callC ho hfe hcall fun e w' ⟨hkp, hout⟩ => ?_
  obtain ⟨x, m2, rfl, hp2, hown, hnam, hvx⟩ := hout
  obtain ⟨h3, h4⟩ := hX.leave hS (by omega) (A := []) List.nodup_nil (fun b hb => by simp at hb) (hβ (m.r b0)) hkp hp2 hown hnam
  have hmr : (ouM m m2 S []).r b0 = m.r b0 := by
   have hpS : pos S b0 = none := by
    cases hq : pos S b0 with
    | none => rfl
    | some i => exact absurd (List.mem_of_getElem? (pos_some hq)) hbS
   simp [ouM, pos, hpS]
  have h5 := h3.lvX hSl hmr
  exact .inl ⟨x, rfl, hK _ _ _ _ hk (h5.put o.dst v x hd.lt (hvx.flat_any hfl))⟩
theorem slL_run [Glob] (h : Rel w0 m0 F X N st a w m) {v : V} {r : Option (List (List PV))} (hv : slL st v = some r) {q : Value} (hq : RV w (Gd F m st.b) m v q) :
 ∃ b n c, q = .slice b n c /\ (r = none -> b = none) /\ ∀ l, r = some l -> (b = none -> l = []) := by
 unfold slL at hv
 split at hv
 ·simp only [Option.some.injEq] at hv; subst hv
  rw [show q = .slice none 0 0 from hq]
  exact ⟨none, 0, 0, rfl, fun _ => rfl, fun l h0 => by simp at h0⟩
 ·rename_i c l
  simp only [Option.some.injEq] at hv; subst hv
  rcases RP.slI (show RP w (Gd F m st.b) (.sl c l) q from hq) with ⟨b0, rfl, rfl⟩ | ⟨k, off, cap, rfl, -⟩
  ·exact ⟨_, _, _, rfl, fun h0 => by simp at h0, fun l h0 _ => by simpa using h0.symm⟩
  ·exact ⟨_, _, _, rfl, fun h0 => by simp at h0, fun l _ h1 => by simp at h1⟩
 ·rename_i c l
  simp only [Option.some.injEq] at hv; subst hv
  obtain ⟨h1, b, rfl⟩ := (show RP w (Gd F m st.b) (.sl c l) q /\ ∃ a, q = .slice a l.length l.length from hq)
  rcases RP.slI h1 with ⟨b0, h2, rfl⟩ | ⟨k, off, cap, h2, -⟩
  ·exact ⟨_, _, _, rfl, fun h0 => by simp at h0, fun l h0 _ => by simpa using h0.symm⟩
  ·simp only [Value.slice.injEq] at h2
   exact ⟨_, _, _, rfl, fun h0 => by simp at h0, fun l _ h3 => by rw [h2.1] at h3; simp at h3⟩
 ·rename_i b
  split at hv
  ·rename_i e c l hb
   simp only [Option.some.injEq] at hv; subst hv
   rw [show q = m.r b from hq]
   rcases h.blks b _ hb with ⟨-, ⟨a', ha⟩, hl0⟩ | ⟨k, cap, cur, hv, -⟩
   ·rw [ha, hl0]; exact ⟨_, _, _, rfl, fun h0 => by simp at h0, fun l h0 _ => by simpa using h0.symm⟩
   ·rw [hv]; exact ⟨_, _, _, rfl, fun h0 => by simp at h0, fun l _ h3 => by simp at h3⟩
  ·simp at hv
 ·simp at hv
theorem run_slice_nil {t e : TypeId} (hu : P.underlying t = some (.slice e)) (w : World) (b : Option Addr) (n c : Nat) :
 (binOp .eql t (.slice b n c) (.slice none 0 0)).run P w = .ok (.bool b.isNone) w /\ (binOp .neq t (.slice b n c) (.slice none 0 0)).run P w = .ok (.bool (!b.isNone)) w := by
 have h : ∀ d : Nat, (Op.equalIn (d + 1) t (.slice b n c) (.slice none 0 0)).run P w = .ok b.isNone w := fun d => by
  cases b <;> simp [Op.equalIn, run_underlying hu]
 refine ⟨?_, ?_⟩
 ·simp only [binOp]
  simp [Op.equal, Op.maxDepth, h 9999]
 ·simp only [binOp]
  simp [Op.equal, Op.maxDepth, h 9999]
theorem nil_run [Glob] (hT : TabOK P T) (h : Rel w0 m0 F X N st a w m) {o : Oper} {op : BinOp} {t yt : TypeId} {x : Operand} (hop : o.op = .binOp op t x (.const (.slice none 0 0)) yt) (hd : dstOK N o.dst) {K : St -> Prop} (hv : nilK T st o.dst op t (evO st x) K) {K' : Act -> World -> Prop} {Q : Exit -> Act -> World -> Prop}
 (hK : ∀ st' a' w' m', K st' -> Rel w0 m0 F X N st' a' w' m' -> K' a' w') : o.wp P a w K' Q := by
 unfold nilK at hv
 split at hv
 ·rename_i y hy
  split at hv
  ·rename_i e hkd
   have hu := (hT t y hy).slice hkd
   have hx := h.evO x
   have key : ∀ (bb : Bool), K ⟨putS st.s o.dst (.p (.v (.bool bb))), st.b⟩ -> (execOp a.eval o).run P w = .ok (.value (.bool bb)) w -> o.wp P a w K' Q := fun bb hk hr =>
    run_of_value hr (hK _ _ _ m hk (h.put o.dst _ _ hd.lt (.of0 (v := .p _) (.v _ rfl))))
   have hrun : ∀ (b : Option Addr) (n c : Nat), a.eval x = .slice b n c -> (op = .eql -> (execOp a.eval o).run P w = .ok (.value (.bool b.isNone)) w) /\ (op = .neq -> (execOp a.eval o).run P w = .ok (.value (.bool (!b.isNone))) w) := fun b n c hq => by
    obtain ⟨h1, h2⟩ := run_slice_nil hu w b n c
    have hc0 : a.eval (.const (.slice none 0 0)) = .slice none 0 0 := rfl
    refine ⟨fun ho => ?_, fun ho => ?_⟩
    ·subst ho
     have hg : (eqGuard .eql t x (.const (.slice none 0 0)) (.slice b n c) (.slice none 0 0)).run P w = .ok () w := by simp [eqGuard]
     simp only [execOp, hop, hq, hc0]
     simp only [Sem.run_bind, hg, Result.andThen_ok, h1, Sem.run_pure]
    ·subst ho
     have hg : (eqGuard .neq t x (.const (.slice none 0 0)) (.slice b n c) (.slice none 0 0)).run P w = .ok () w := by simp [eqGuard]
     simp only [execOp, hop, hq, hc0]
     simp only [Sem.run_bind, hg, Result.andThen_ok, h2, Sem.run_pure]
   split at hv
   ·split at hv
    ·rename_i hs
     obtain ⟨b, n, c, hq, hb, -⟩ := slL_run h hs hx
     have := (hrun b n c hq).1 rfl
     rw [hb rfl] at this
     exact key true hv this
    ·rename_i l hs
     obtain ⟨b, n, c, hq, -, hb⟩ := slL_run h hs hx
     exact key b.isNone (hv b.isNone fun h0 => hb l rfl (by simpa using h0)) ((hrun b n c hq).1 rfl)
    ·exact hv.elim
   ·split at hv
    ·rename_i hs
     obtain ⟨b, n, c, hq, hb, -⟩ := slL_run h hs hx
     have := (hrun b n c hq).2 rfl
     rw [hb rfl] at this
     exact key false hv this
    ·rename_i l hs
     obtain ⟨b, n, c, hq, -, hb⟩ := slL_run h hs hx
     exact key (!b.isNone) (hv b.isNone fun h0 => hb l rfl (by simpa using h0)) ((hrun b n c hq).2 rfl)
    ·exact hv.elim
   ·exact hv.elim
  ·exact hv.elim
 ·exact hv.elim
theorem clr_run [Glob] (hT : TabOK P T) (h : Rel w0 m0 F X N st a w m) {ts : Array TypeId} {as : Array Operand} {ty : TypeId} {K : St -> Prop} (hv : ClrK T st ts.toList (as.toList.map (evO st)) K) :
 ∃ st' w', K st' /\ (Builtin.clear_ ts ty (as.map a.eval)).run P w = .ok (.tuple #[]) w' /\ Rel w0 m0 F X N st' a w' m := by
 unfold ClrK at hv
 split at hv
 case h_2 => exact hv.elim
 rename_i t b c i hts has
 obtain ⟨o0, hos⟩ : ∃ o0, as.toList = [o0] := List.length_eq_one_iff.1 (by have := congrArg List.length has; simpa using this)
 have hx0 : evO st o0 = .suf b c i := by rw [hos] at has; simpa using has
 have hargs : as.map a.eval = #[a.eval o0] := by apply Array.ext'; simp [hos]
 have hts' : ts = #[t] := by apply Array.ext'; simpa using hts
 have hx := h.evO o0
 rw [hx0] at hx
 split at hv
 case h_2 => exact hv.elim
 rename_i y hy
 split at hv
 case h_2 => exact hv.elim
 rename_i e hkd
 have hu := (hT t y hy).slice hkd
 split at hv
 case h_2 => exact hv.elim
 rename_i z e' c' l hz hb
 split at hv
 case h_2 => exact hv.elim
 rename_i zs hzs
 obtain ⟨rfl, rfl, hil, hz0, hk⟩ := hv
 obtain ⟨a0, a1, len, cap, hmr, hile, hq, hadr⟩ := (show RV0 w (Gd F m st.b) m (.suf b z.size i) (a.eval o0) from hx)
 rcases h.blks b _ hb with ⟨-, ⟨a0, ha0⟩, hl0⟩ | ⟨k', cap', cur, hr, hc0, hlc, hcm, hh, hs, hel⟩
 ·rw [hl0] at hil; simp at hil
 rw [hmr] at hr
 simp only [Value.slice.injEq] at hr
 obtain ⟨hr0, rfl, rfl⟩ := hr
 obtain ⟨k, hk0, hk1⟩ := hadr hil
 rw [hk0] at hr0
 simp only [Option.some.injEq, Addr.mk.injEq, and_true] at hr0
 subst hr0
 rw [hk1] at hq
 rw [hk0] at hmr
 obtain ⟨ti, zv, hi, hs1, hzv, har, hzl⟩ := zero_AR (hT e z hz) hzs w (Gd F m st.b)
 have hzc : zv.cells.size = z.size := by rw [hzl, (hT e z hz).zlen]
 have hzsl : zs.length = z.size := by rw [<- har.1, hzc]
 let vs := (Builtin.zeroCells zv.cells (l.length - i)).toList
 have hvl : vs.length = (l.length - i) * z.size := by simp [vs, Builtin.zeroCells, hzc]
 have hvg : ∀ n, n < (l.length - i) * z.size -> vs[n]? = some (zv.cells[n % z.size]!) := fun n hn => by
  simp only [vs, Builtin.zeroCells, hzc, Array.toList_map, Array.toList_range, List.getElem?_map]
  rw [List.getElem?_range hn]; rfl
 have hle : i * z.size + vs.length <= cur.size := by
  rw [hvl, hs, Nat.sub_mul]
  have h1 : i * z.size <= l.length * z.size := Nat.mul_le_mul_right _ (by omega)
  have h2 : l.length * z.size <= cap * z.size := Nat.mul_le_mul_right _ hlc
  omega
 have hone : ∀ v ∈ vs, v.oneCell' = true := fun v hv => by
  obtain ⟨n, hn, rfl⟩ := List.getElem_of_mem hv
  have hg := hvg n (by rw [<- hvl]; exact hn)
  rw [List.getElem?_eq_getElem hn] at hg
  simp only [Option.some.injEq] at hg
  rw [hg]
  have hm : n % z.size < zs.length := by rw [hzsl]; exact Nat.mod_lt _ hz0
  obtain ⟨h5, u, h6, h7⟩ := har.2 (n % z.size) _ (List.getElem?_eq_getElem hm)
  obtain ⟨h8, h9⟩ := Array.getElem?_eq_some_iff.1 h6
  rw [getElem!_pos zv.cells _ h8, h9]
  exact h7.oneCell h5
 have hst := run_storeCells_at P k (i * z.size) e' vs 0 cur w hh (by simpa using hle) hone
 simp only [Nat.add_zero] at hst
 refine ⟨_, w.setRow k (cur.toList.take (i * z.size) ++ vs ++ cur.toList.drop (i * z.size + vs.length)).toArray, hk, ?_, ?_⟩
 ·rw [hargs, hts', hq]
  obtain ⟨n, hn⟩ : ∃ n, l.length - i = n + 1 := ⟨l.length - i - 1, by omega⟩
  have hzz : (zeroValue e).run P w = .ok zv w := by simp [zeroValue, typeInfo, hi, hzv]
  have hst' : (storeCells ⟨k, i * z.size, none⟩ (Builtin.zeroCells zv.cells (n + 1)).toList 0).run P w = .ok () (w.setRow k (cur.toList.take (i * z.size) ++ vs ++ cur.toList.drop (i * z.size + vs.length)).toArray) := by
   rw [<- hn]; exact hst
  rw [hn]
  simp [Builtin.clear_, run_underlying hu, hzz, hst']
 ·have hgetL : ∀ n, n < i * z.size -> (cur.toList.take (i * z.size) ++ vs ++ cur.toList.drop (i * z.size + vs.length)).toArray[n]? = cur[n]? := fun n hn => by
   have h1 : (cur.toList.take (i * z.size)).length = i * z.size := by simp; omega
   simp only [List.getElem?_toArray]
   rw [List.getElem?_append_left (by simp; omega), List.getElem?_append_left (by omega), List.getElem?_take, if_pos hn]
   simp
  have hgetR : ∀ n, n < (l.length - i) * z.size -> (cur.toList.take (i * z.size) ++ vs ++ cur.toList.drop (i * z.size + vs.length)).toArray[i * z.size + n]? = vs[n]? := fun n hn => by
   have h1 : (cur.toList.take (i * z.size)).length = i * z.size := by simp; omega
   simp only [List.getElem?_toArray]
   rw [List.getElem?_append_left (by simp; omega), List.getElem?_append_right (by omega), h1]
   congr 1; omega
  refine h.store hb (blk' := .row e' z.size (l.take i ++ List.replicate (l.length - i) zs)) trivial (Keeps.setRow w k _ |>.mono fun k0 hk0 => by
   subst hk0; unfold owns; rw [hb, hmr]; simp [ownB]; omega) ?_
  have hll : (l.take i ++ List.replicate (l.length - i) zs).length = l.length := by simp; omega
  refine .inr ⟨k, cap, _, by rw [hmr, hll], hc0, by rw [hll]; exact hlc, hcm, setRow_heap w _ _ _ _ _ hh, ?_, fun j el hj => ?_⟩
  ·simp; omega
  ·have ht : Turn w (w.setRow k (cur.toList.take (i * z.size) ++ vs ++ cur.toList.drop (i * z.size + vs.length)).toArray) (Gd F m st.b) (Gd F m st.b) :=
    ⟨by simp, fun k0 hk0 hg => setRow_other w k k0 _ fun e => hg (.inr ⟨b, by unfold owns; rw [hb, hmr, e]; simp [ownB]; omega⟩), fun _ _ hg => hg⟩
   by_cases hji : j < i
   ·rw [List.getElem?_append_left (by simp; omega), List.getElem?_take, if_pos hji] at hj
    refine ⟨(hel j el hj).1, fun n p hn => ?_⟩
    obtain ⟨h5, u, h6, h7⟩ := (hel j el hj).2 n p hn
    refine ⟨h5, u, ?_, h7.move ht.size ht.block ht.less⟩
    have hnl : n < z.size := by rw [<- (hel j el hj).1]; exact (List.getElem?_eq_some_iff.1 hn).1
    have : (j + 1) * z.size <= i * z.size := Nat.mul_le_mul_right _ (by omega)
    rw [Nat.add_mul, Nat.one_mul] at this
    rw [hgetL _ (by omega)]; exact h6
   ·rw [List.getElem?_append_right (by simp; omega), List.getElem?_replicate] at hj
    split at hj
    ·rename_i hlt
     simp only [Option.some.injEq] at hj
     subst hj
     have hlt' : j - i < l.length - i := by
      have : (l.take i).length = i := by simp; omega
      omega
     refine ⟨hzsl, fun n p hn => ?_⟩
     have hnl : n < z.size := by rw [<- hzsl]; exact (List.getElem?_eq_some_iff.1 hn).1
     obtain ⟨h5, u, h6, h7⟩ := har.2 n p hn
     refine ⟨h5, u, ?_, h7.move ht.size ht.block ht.less⟩
     have hpos : (j - i) * z.size + n < (l.length - i) * z.size := by
      have : (j - i + 1) * z.size <= (l.length - i) * z.size := Nat.mul_le_mul_right _ (by omega)
      rw [Nat.add_mul, Nat.one_mul] at this
      omega
     have e1 : j * z.size + n = i * z.size + ((j - i) * z.size + n) := by
      rw [Nat.sub_mul]
      have : i * z.size <= j * z.size := Nat.mul_le_mul_right _ (by omega)
      omega
     rw [e1, hgetR _ hpos, hvg _ hpos, Nat.mul_comm (j - i), Nat.mul_add_mod, Nat.mod_eq_of_lt hnl]
     obtain ⟨h8, h9⟩ := Array.getElem?_eq_some_iff.1 h6
     rw [getElem!_pos zv.cells n h8, h9]
    ·simp at hj
theorem cpy_run [Glob] (hT : TabOK P T) (h : Rel w0 m0 F X N st a w m) {ts : Array TypeId} {as : Array Operand} {ty : TypeId} {d : Option Nat} (hd : dstOK N d) {K : St -> Prop} (hv : CpyK T st d ts.toList (as.toList.map (evO st)) K)
 {K' : Act -> World -> Prop} (hK : ∀ st' a' w' m', K st' -> Rel w0 m0 F X N st' a' w' m' -> K' a' w') :
 ∃ x w', (Builtin.copy_ ts ty (as.map a.eval)).run P w = .ok x w' /\ K' (a.put d x) w' := by
 unfold CpyK at hv
 split at hv
 case h_2 => exact hv.elim
 rename_i t tx x s hts has
 obtain ⟨o0, o1, hos⟩ : ∃ o0 o1, as.toList = [o0, o1] := by
  match hl : as.toList, has with
  | [o0, o1], _ => exact ⟨o0, o1, rfl⟩
 have hs0 : evO st o0 = x := by rw [hos] at has; simp at has; exact has.1
 have hs1 : evO st o1 = s := by rw [hos] at has; simp at has; exact has.2
 have hargs : as.map a.eval = #[a.eval o0, a.eval o1] := by apply Array.ext'; simp [hos]
 have hts' : ts = #[t, tx] := by apply Array.ext'; simpa using hts
 have hx0 := h.evO o0
 rw [hs0] at hx0
 have hx1 := h.evO o1
 rw [hs1] at hx1
 split at hv
 case h_2 => exact hv.elim
 rename_i y hy
 split at hv
 case h_2 => exact hv.elim
 rename_i e hkd
 have hu := (hT t y hy).slice hkd
 split at hv
 case h_2 => exact hv.elim
 rename_i z hz
 split at hv
 case h_2 => exact hv.elim
 rename_i l2 b c i hl2 hbi
 split at hv
 case h_2 => exact hv.elim
 rename_i e' c' l hb
 obtain ⟨rfl, rfl, hz0, hfit, hk⟩ := hv
 obtain ⟨news, hsrc⟩ := srcL_run (P := P) h hz0 hl2 hx1
 obtain ⟨ti, tz, hti, htz, -⟩ := (hT e z hz).info
 have hlen : ∀ W : World, (Builtin.lenOf (a.eval o1)).run P W = .ok l2.length W := fun W => by
  rcases hsrc.shape with ⟨b1, cap1, hq⟩ | ⟨s1, hq, hl⟩
  ·rw [hq]; simp [Builtin.lenOf]
  ·rw [hq, hl]; simp [Builtin.lenOf, bytesL]
 have hdst : ∃ a1 dl dc, a.eval o0 = .slice a1 dl dc /\ dl = l.length - i /\ (l2 ≠ [] -> ∃ k cap cur, m.r b = .slice (some ⟨k, 0, none⟩) l.length cap /\ a1 = some ⟨k, i * z.size, none⟩ /\ 0 < cap /\ l.length <= cap /\ cap <= maxLen ∧
  w.heap[k]? = some (.cells cur e' (0, 0)) /\ cur.size = cap * z.size /\ ∀ (j : Nat) (el : List PV), l[j]? = some el -> el.length = z.size /\ ∀ (n : Nat) (p : PV), el[n]? = some p -> p.one = true /\ ∃ u, cur[j * z.size + n]? = some u /\ RP w (Gd F m st.b) p u) := by
  have hrb := h.blks b _ hb
  have hpos : l2 ≠ [] -> 0 < l2.length := fun h0 => List.length_pos_iff.2 h0
  unfold dstC at hbi
  split at hbi
  ·rename_i b0
   simp only [Option.some.injEq, Prod.mk.injEq, true_and] at hbi
   obtain ⟨rfl, rfl⟩ := hbi
   have hq : a.eval o0 = m.r b0 := hx0
   rcases hrb with ⟨-, ⟨a0, ha0⟩, hl0⟩ | ⟨k, cap, cur, hr, hc0, hlc, hcm, hh, hs, hel⟩
   ·exact ⟨a0, 0, 0, by rw [hq, ha0], by rw [hl0]; rfl, fun h0 => by have := hpos h0; rw [hl0] at hfit; simp only [List.length_nil] at hfit; omega⟩
   ·exact ⟨_, l.length, cap, by rw [hq, hr], by omega, fun _ => ⟨k, cap, cur, hr, by rw [Nat.zero_mul], hc0, hlc, hcm, hh, hs, hel⟩⟩
  ·rename_i b0 c0 i0
   simp only [Option.some.injEq, Prod.mk.injEq] at hbi
   obtain ⟨rfl, rfl, rfl⟩ := hbi
   obtain ⟨a0, a1, len, cap, hmr, hile, hq, hadr⟩ := (show RV0 w (Gd F m st.b) m (.suf b0 z.size i0) (a.eval o0) from hx0)
   rcases hrb with ⟨-, ⟨a0', ha0⟩, hl0⟩ | ⟨k', cap', cur, hr, hc0, hlc, hcm, hh, hs, hel⟩
   ·rw [ha0] at hmr
    simp only [Value.slice.injEq] at hmr
    obtain ⟨-, rfl, -⟩ := hmr
    exact ⟨a1, 0 - i0, cap - i0, hq, by rw [hl0]; rfl, fun h0 => by have := hpos h0; rw [hl0] at hfit; simp only [List.length_nil] at hfit; omega⟩
   ·rw [hmr] at hr
    simp only [Value.slice.injEq] at hr
    obtain ⟨hr0, rfl, rfl⟩ := hr
    refine ⟨a1, l.length - i0, cap - i0, hq, rfl, fun h0 => ?_⟩
    obtain ⟨k, hk0, hk1⟩ := hadr (by have := hpos h0; omega)
    rw [hk0] at hr0
    simp only [Option.some.injEq, Addr.mk.injEq, and_true] at hr0
    subst hr0
    exact ⟨k, cap, cur, by rw [hmr, hk0], hk1, hc0, hlc, hcm, hh, hs, hel⟩
  ·simp at hbi
 obtain ⟨a1, dl, dc, hq, hdl, hne⟩ := hdst
 have hmin : Nat.min l2.length dl = l2.length := Nat.min_eq_left (by omega)
 have hnm : (Builtin.copy_ ts ty (as.map a.eval)) = Builtin.copy_ #[t, tx] ty #[.slice a1 dl dc, a.eval o1] := by rw [hargs, hts', hq]
 have hfirst := hsrc.first w rfl
 rw [<- htz] at hfirst
 have hgo : RV w (Gd F m st.b) m (.p (.v (.int .i64 l2.length))) (goInt l2.length) := .of0 (v := .p _) (.v _ rfl)
 by_cases h0 : l2 = []
 ·subst h0
  have hn0 : news = [] := List.length_eq_zero_iff.1 (by rw [hsrc.len]; simp)
  refine ⟨goInt 0, w, ?_, ?_⟩
  ·rw [hnm]
   have hmin0 : Nat.min 0 dl = 0 := Nat.zero_min _
   simp only [List.length_nil] at hlen hfirst
   cases a1 <;> simp [Builtin.copy_, run_underlying hu, hlen, hmin0, sizeOf, typeInfo, hti, hfirst, hn0, storeCells]
  ·have e1 : (fun b' => if b' = b then some (Blk.row e' z.size (l.take i ++ [] ++ l.drop (i + ([] : List (List PV)).length))) else st.b b') = st.b := by
    funext b'
    by_cases hbb : b' = b
    ·subst hbb; simp [hb]
    ·simp [hbb]
   rw [e1] at hk
   exact hK _ _ _ m hk (h.put d _ _ hd.lt hgo)
 ·obtain ⟨k, cap, cur, hmr, ha1, hc0, hlc, hcm, hh, hs, hel⟩ := hne h0
  have hle : i * z.size + news.length <= cur.size := by
   rw [hsrc.len, hs, <- Nat.add_mul]
   exact Nat.mul_le_mul_right _ (by omega)
  have hst := run_storeCells_at P k (i * z.size) e' news 0 cur w hh (by simpa using hle) hsrc.one
  simp only [Nat.add_zero] at hst
  refine ⟨goInt l2.length, w.setRow k (cur.toList.take (i * z.size) ++ news ++ cur.toList.drop (i * z.size + news.length)).toArray, ?_, ?_⟩
  ·rw [hnm, ha1]
   simp [Builtin.copy_, run_underlying hu, hlen, hmin, sizeOf, typeInfo, hti, hfirst, hst]
  ·have hgetL : ∀ n, n < i * z.size -> (cur.toList.take (i * z.size) ++ news ++ cur.toList.drop (i * z.size + news.length)).toArray[n]? = cur[n]? := fun n hn => by
    simp only [List.getElem?_toArray]
    rw [List.getElem?_append_left (by simp; omega), List.getElem?_append_left (by simp; omega), List.getElem?_take, if_pos hn]
    simp
   have hgetM : ∀ n, n < news.length -> (cur.toList.take (i * z.size) ++ news ++ cur.toList.drop (i * z.size + news.length)).toArray[i * z.size + n]? = news[n]? := fun n hn => by
    have h1 : (cur.toList.take (i * z.size)).length = i * z.size := by simp; omega
    simp only [List.getElem?_toArray]
    rw [List.getElem?_append_left (by simp; omega), List.getElem?_append_right (by omega), h1]
    congr 1; omega
   have hgetR : ∀ n, i * z.size + news.length <= n -> (cur.toList.take (i * z.size) ++ news ++ cur.toList.drop (i * z.size + news.length)).toArray[n]? = cur[n]? := fun n hn => by
    have h1 : (cur.toList.take (i * z.size) ++ news).length = i * z.size + news.length := by simp; omega
    simp only [List.getElem?_toArray]
    rw [List.getElem?_append_right (by omega), h1, List.getElem?_drop]
    rw [show i * z.size + news.length + (n - (i * z.size + news.length)) = n by omega]
    simp
   have hll : (l.take i ++ l2 ++ l.drop (i + l2.length)).length = l.length := by simp; omega
   have hst2 := h.store hb (w' := w.setRow k (cur.toList.take (i * z.size) ++ news ++ cur.toList.drop (i * z.size + news.length)).toArray) (blk' := .row e' z.size (l.take i ++ l2 ++ l.drop (i + l2.length))) trivial (Keeps.setRow w k _ |>.mono fun k0 hk0 => by
    subst hk0; unfold owns; rw [hb, hmr]; simp [ownB]; omega) (by
    refine .inr ⟨k, cap, _, by rw [hmr, hll], hc0, by rw [hll]; exact hlc, hcm, setRow_heap w _ _ _ _ _ hh, ?_, fun j el hj => ?_⟩
    ·simp; omega
    ·have ht : Turn w (w.setRow k (cur.toList.take (i * z.size) ++ news ++ cur.toList.drop (i * z.size + news.length)).toArray) (Gd F m st.b) (Gd F m st.b) :=
      ⟨by simp, fun k0 hk0 hg => setRow_other w k k0 _ fun e => hg (.inr ⟨b, by unfold owns; rw [hb, hmr, e]; simp [ownB]; omega⟩), fun _ _ hg => hg⟩
     have bnd : ∀ n, n < z.size -> j * z.size + n < (j + 1) * z.size := fun n hn => by rw [Nat.add_mul, Nat.one_mul]; omega
     by_cases hji : j < i
     ·rw [List.append_assoc, List.getElem?_append_left (by simp; omega), List.getElem?_take, if_pos hji] at hj
      refine ⟨(hel j el hj).1, fun n p hn => ?_⟩
      obtain ⟨h5, u, h6, h7⟩ := (hel j el hj).2 n p hn
      refine ⟨h5, u, ?_, h7.move ht.size ht.block ht.less⟩
      have hnl : n < z.size := by rw [<- (hel j el hj).1]; exact (List.getElem?_eq_some_iff.1 hn).1
      have h8 := bnd n hnl
      have : (j + 1) * z.size <= i * z.size := Nat.mul_le_mul_right _ (by omega)
      rw [hgetL _ (by omega)]; exact h6
     ·by_cases hji2 : j < i + l2.length
      ·rw [List.append_assoc, List.getElem?_append_right (by simp; omega), List.getElem?_append_left (by simp; omega)] at hj
       have hmn : j - (l.take i).length = j - i := by simp; omega
       rw [hmn] at hj
       obtain ⟨h3, h4⟩ := hsrc.els (j - i) el hj
       refine ⟨h3, fun n p hn => ?_⟩
       obtain ⟨h5, u, h6, h7⟩ := h4 n p hn
       refine ⟨h5, u, ?_, h7.move ht.size ht.block ht.less⟩
       have hnl : n < z.size := by rw [<- h3]; exact (List.getElem?_eq_some_iff.1 hn).1
       have e1 : j * z.size + n = i * z.size + ((j - i) * z.size + n) := by
        rw [Nat.sub_mul]
        have : i * z.size <= j * z.size := Nat.mul_le_mul_right _ (by omega)
        omega
       have h9 : (j - i) * z.size + n < news.length := by
        rw [hsrc.len]
        have : (j - i + 1) * z.size <= l2.length * z.size := Nat.mul_le_mul_right _ (by omega)
        rw [Nat.add_mul, Nat.one_mul] at this
        omega
       rw [e1, hgetM _ h9]; exact h6
      ·rw [List.getElem?_append_right (by simp; omega), List.getElem?_drop] at hj
       have hmn : i + l2.length + (j - (l.take i ++ l2).length) = j := by simp; omega
       rw [hmn] at hj
       refine ⟨(hel j el hj).1, fun n p hn => ?_⟩
       obtain ⟨h5, u, h6, h7⟩ := (hel j el hj).2 n p hn
       refine ⟨h5, u, ?_, h7.move ht.size ht.block ht.less⟩
       have h8 : (i + l2.length) * z.size <= j * z.size := Nat.mul_le_mul_right _ (by omega)
       rw [hgetR _ (by rw [hsrc.len, <- Nat.add_mul]; omega)]; exact h6)
   exact hK _ _ _ m hk (hst2.put d _ _ hd.lt (.of0 (v := .p _) (.v _ rfl)))
theorem cut_run [Glob] (hT : TabOK P T) (h : Rel w0 m0 F X N st a w m) {t : TypeId} {b d : Nat} (hd : dOK N d) {x hi : Operand} (hx : evO st x = .row b) {K : St -> Prop} (hv : CutK T st t b d (evO st hi) K) {K' : Act -> World -> Prop}
 (hK : ∀ st' a' w' m', K st' -> Rel w0 m0 F X N st' a' w' m' -> K' a' w') : ∃ r, (Instr.sliceAt t (a.eval x) none (some (a.eval hi)) none).run P w = .ok r w /\ K' (a.put (some d) r) w := by
 unfold CutK at hv
 split at hv
 case h_2 => exact hv.elim
 rename_i y hy
 split at hv
 case h_2 => exact hv.elim
 rename_i e hkd
 have hu := (hT t y hy).slice hkd
 split at hv
 case h_2 => exact hv.elim
 rename_i z e' c l ki i hz hb hhi
 obtain ⟨h0, hil, rfl, hk⟩ := hv
 have hq := h.evO x
 rw [hx] at hq
 have hqe : a.eval x = m.r b := hq
 have hh := h.evO hi
 rw [hhi] at hh
 have hRhi : RVo w (Gd F m st.b) m (some (.p (.v (.int ki i)))) (some (a.eval hi)) := hh
 rcases h.blks b _ hb with ⟨hemp, ⟨a0, ha0⟩, hl0⟩ | ⟨k, cap, cur, hr, hc0, hlc, hcm, hh', hs, hel⟩
 ·subst hl0
  simp only [List.length_nil, Nat.le_zero] at hil
  have hbd := (bounds_run (P := P) (cap := 0) (w := w) (G := Gd F m st.b) (m := m) (lo := none) (hi := some (.p (.v (.int ki i)))) (mx := none) (ql := none) (qm := none) (len := 0) trivial hRhi trivial (i := 0) (j := 0) rfl (by simp [bnd, h0, hil]) true (Nat.le_refl _)).1 rfl (Nat.le_refl _)
  have hrun := run_slice_of hT hu hz (b := a0) hbd
  rw [hqe, ha0]
  refine ⟨_, hrun, ?_⟩
  obtain ⟨m', hm'⟩ := h.row (nm := b) hd (e := e') (c := z.size) (l := []) (x := .slice a0 0 0) (w' := w) (Keeps.refl _ w) (.inl ⟨by rw [<- ha0]; exact hemp, ⟨a0, rfl⟩, rfl⟩) (fun k hk => by cases a0 <;> simp [ownB] at hk)
  simp only [List.take_nil] at hk
  exact hK _ _ _ m' hk hm'
 ·have hbd := (bounds_run (P := P) (cap := cap) (w := w) (G := Gd F m st.b) (m := m) (lo := none) (hi := some (.p (.v (.int ki i)))) (mx := none) (ql := none) (qm := none) (len := l.length) trivial hRhi trivial (i := 0) (j := i.toNat) rfl (by simp [bnd, h0]) true (Nat.zero_le _)).1 rfl (by omega)
  have hrun := run_slice_of hT hu hz (b := some ⟨k, 0, none⟩) hbd
  rw [hqe, hr]
  have e1 : (if cap = 0 then some (⟨k, 0, none⟩ : Addr) else (some (⟨k, 0, none⟩ : Addr)).map (·.add (0 * z.size))) = some ⟨k, 0, none⟩ := by
   split
   ·rfl
   ·simp [addr_add]
  rw [e1] at hrun
  refine ⟨_, hrun, ?_⟩
  obtain ⟨m', hm'⟩ := h.row (nm := b) hd (e := e') (c := z.size) (l := l.take i.toNat) (x := .slice (some ⟨k, 0, none⟩) (i.toNat - 0) (cap - 0)) (w' := w) (Keeps.refl _ w)
   (.inr ⟨k, cap, cur, by simp; omega, hc0, by simp; omega, hcm, hh', hs, fun j el hj => by
    rw [List.getElem?_take] at hj
    split at hj
    ·exact hel j el hj
    ·simp at hj⟩) (fun k0 hk0 => by
    simp only [ownB] at hk0
    split at hk0
    ·simp at hk0
    ·simp only [Option.some.injEq] at hk0
     subst hk0
     exact ⟨.inl (by unfold owns; rw [hb, hr]; simp [ownB]; omega), (Array.getElem?_eq_some_iff.1 hh').1⟩)
  exact hK _ _ _ m' hk hm'
theorem stepA_run [Glob] (hT : TabOK P T) (h : Rel w0 m0 F X N st a w m) {o : Oper} {K : St -> Prop} {Z : Value -> St -> Prop} (hv : stepA P T N st o K Z) {K' : Act -> World -> Prop} {Q : Exit -> Act -> World -> Prop}
 (hK : ∀ st' a' w' m', K st' -> Rel w0 m0 F X N st' a' w' m' -> K' a' w') (hZ : ∀ y st' w' m', Z y st' -> Rel w0 m0 F X N st' a w' m' -> Q (.panic [{ v := y, recovered := false }]) a w') : o.wp P a w K' Q := by
 have quiet : (dstOK N o.dst /\ match evV T st o with | some v => K ⟨putS st.s o.dst v, st.b⟩ | none => False) -> o.wp P a w K' Q := fun ⟨hd, hq⟩ => by
  split at hq
  ·rename_i v hv
   obtain ⟨x, w', h1, h2, h3⟩ := evV_run hT h hv
   exact run_of_value h1 (hK _ _ _ m hq ((h.world h2).put o.dst v x hd.lt h3))
  ·exact hq.elim
 unfold stepA at hv
 split at hv
 ·rename_i t hop
  split at hv
  ·exact hv.elim
  rename_i d hdst
  obtain ⟨hd, hv⟩ := hv
  split at hv
  ·rename_i st' hst
   obtain ⟨x, w', m', h1, h2⟩ := evAlloc_run hT h hd hst
   refine run_of_value (x := x) (w' := w') (by simp only [execOp, hop]; rw [Sem.run_bind, h1]; rfl) ?_
   rw [hdst]; exact hK _ _ _ m' hv h2
  ·exact hv.elim
 ·rename_i t x hop
  split at hv
  ·exact hv.elim
  rename_i d hdst
  obtain ⟨hd, hv⟩ := hv
  split at hv
  ·rename_i st' hst
   obtain ⟨x, w', m', h1, h2⟩ := evBox_run (P := P) h hd (h.evO x) hst
   refine run_of_value (x := x) (w' := w') (by simp only [execOp, hop]; rw [Sem.run_bind, h1]; rfl) ?_
   rw [hdst]; exact hK _ _ _ m' hv h2
  ·exact hv.elim
 ·rename_i t n c hop
  split at hv
  ·exact hv.elim
  rename_i d hdst
  obtain ⟨hd, hv⟩ := hv
  split at hv
  ·rename_i st' hst
   obtain ⟨x, w', m', h1, h2⟩ := evMake_run hT h hd (h.evO n) (h.evO c) hst
   refine run_of_value (x := x) (w' := w') (by simp only [execOp, hop]; rw [Sem.run_bind, h1]; rfl) ?_
   rw [hdst]; exact hK _ _ _ m' hv h2
  ·exact hv.elim
 ·rename_i t p x hop
  split at hv
  ·exact hv.elim
  rename_i hdst
  split at hv
  ·rename_i st' hst
   obtain ⟨w', h1, h2⟩ := evStore_run hT h (h.evO p) (h.evO x) hst
   unfold Oper.wp
   have : (execOp a.eval o).run P w = .ok .skip w' := by simp only [execOp, hop]; rw [Sem.run_bind, h1]; rfl
   rw [this, Oper.upon_skip, hdst]
   exact hK _ _ _ m hv h2
  ·exact hv.elim
 ·rename_i as ts hop
  split at hv
  ·exact hv.elim
  rename_i d hdst
  obtain ⟨hd, hv⟩ := hv
  obtain ⟨x, w', h1, h2⟩ := app_run (ty := o.type) hT h hd hv hK
  refine run_of_value (x := x) (w' := w') (by simp only [execOp, hop, resolve, invoke, builtin]; simp [h1]) ?_
  rw [hdst]; exact h2
 ·rename_i f as ts hop
  split at hv
  ·rename_i g cs mv hf
   obtain ⟨hd, hv⟩ := hv
   exact call_run h hop hf hd hv hK hZ
  ·exact hv.elim
 ·rename_i x hop
  split at hv
  ·rename_i t y hx
   have h1 := h.evO x
   rw [hx] at h1
   have e1 := RV.scal h1
   unfold Oper.wp
   simp only [execOp, hop, e1, Instr.panic]
   exact hZ _ _ _ m hv h
  ·exact hv.elim
 ·rename_i op t x yt hop
  obtain ⟨hd, hv⟩ := hv
  exact nil_run hT h hop hd hv hK
 ·rename_i as ts hop
  split at hv
  ·rename_i hdst
   obtain ⟨st', w', hk, hrun, hrel⟩ := clr_run (ty := o.type) hT h hv
   refine run_of_value (x := .tuple #[]) (w' := w') (by simp only [execOp, hop, resolve, invoke, builtin]; simp [hrun]) ?_
   rw [hdst]
   exact hK _ _ _ m hk hrel
  ·exact hv.elim
 ·rename_i as ts hop
  obtain ⟨hd, hv⟩ := hv
  obtain ⟨x, w', h1, h2⟩ := cpy_run (ty := o.type) hT h hd hv hK
  exact run_of_value (x := x) (w' := w') (by simp only [execOp, hop, resolve, invoke, builtin]; simp [h1]) h2
 ·rename_i t x hi hop
  split at hv
  ·rename_i b hx
   split at hv
   ·rename_i d hdst
    obtain ⟨hd, hv⟩ := hv
    obtain ⟨r, h1, h2⟩ := cut_run hT h hd hx hv hK
    refine run_of_value (x := r) (w' := w) (by simp only [execOp, hop]; simp [h1]) ?_
    rw [hdst]; exact h2
   ·exact hv.elim
  ·exact quiet hv
 ·rename_i t hop
  split at hv
  ·rename_i d hdst
   obtain ⟨hd, hv⟩ := hv
   unfold MkK at hv
   split at hv
   case h_2 => exact hv.elim
   rename_i y hy
   split at hv
   case h_2 => exact hv.elim
   rename_i kt e ks hkd
   obtain ⟨m', hm'⟩ := h.mkmap (d := d) hd ks
   refine run_of_value (x := .map (some w.heap.size)) (w' := w.alloc (.map #[] 0)) (by simp only [execOp, hop]; rfl) ?_
   rw [hdst]
   exact hK _ _ _ m' hv hm'
  ·exact hv.elim
 ·rename_i t x k v hop
  split at hv
  ·rename_i hdst
   obtain ⟨st', w', hk, hrun, hrel⟩ := map_run hT h hv
   unfold Oper.wp
   have : (execOp a.eval o).run P w = .ok .skip w' := by simp only [execOp, hop]; rw [Sem.run_bind, hrun]; rfl
   rw [this, Oper.upon_skip, hdst]
   exact hK _ _ _ m hk hrel
  ·exact hv.elim
 ·rename_i t x k v hop
  split at hv
  ·rename_i hdst
   obtain ⟨st', w', hk, hrun, hrel⟩ := map_run hT h hv
   unfold Oper.wp
   have : (execOp a.eval o).run P w = .ok .skip w' := by simp only [execOp, hop]; rw [Sem.run_bind, hrun]; rfl
   rw [this, Oper.upon_skip, hdst]
   exact hK _ _ _ m hk hrel
  ·exact hv.elim
 ·exact quiet hv
theorem Lit1_run [Glob] (hT : TabOK P T) (h : Rel w0 m0 F X N st a w m) {o : Oper} {K : St -> Prop} (hv : Lit1 T N st o.op o.dst K) :
 ∃ x w' st' m', (execOp a.eval o).run P w = .ok (.value x) w' /\ Rel w0 m0 F X N st' (a.put o.dst x) w' m' /\ K st' := by
 unfold Lit1 at hv
 split at hv
 ·rename_i t n parts d hop hdst
  obtain ⟨hd, hn0, hv⟩ := hv
  split at hv
  ·rename_i y hy
   split at hv
   ·rename_i e hkd
    split at hv
    ·rename_i c l hb
     obtain ⟨x, w', hrun, hkp, -, hnew⟩ := bldS_run hT h hb
     obtain ⟨y', e', cs, hy', hkd', rfl, hln, rfl, hcs, hlim, hc0, hel⟩ := hnew c l rfl
     rw [hy] at hy'
     simp only [Option.some.injEq] at hy'
     subst hy'
     rw [hkd] at hkd'
     simp only [Kd.slice.injEq] at hkd'
     subst hkd'
     obtain ⟨m', hm'⟩ := h.row (nm := d) hd (e := e) (c := c) (l := l) (x := .slice (some ⟨w.heap.size, 0, none⟩) l.length l.length) (w' := w.alloc (.cells cs e)) (hkp.mono fun _ hf => hf.elim)
      (.inr ⟨w.heap.size, l.length, cs, rfl, by omega, Nat.le_refl _, by
       have : l.length <= n * c := by rw [hln]; exact Nat.le_mul_of_pos_right n hc0
       unfold maxLen; omega, heap_alloc_new w _, by rw [hcs, hln], fun i el hi => ⟨(hel i el hi).1, fun j p hj => (hel i el hi).2 j p hj⟩⟩)
      (fun k hk => by
       simp only [ownB] at hk
       split at hk
       ·simp at hk
       ·simp only [Option.some.injEq] at hk
        subst hk
        exact ⟨.inr (Nat.le_refl _), by simp⟩)
     refine ⟨_, _, _, m', ?_, by rw [hdst]; exact hm', hv⟩
     simp only [execOp, hop]
     rw [Sem.run_bind, hrun]; rfl
    ·exact hv.elim
   ·exact hv.elim
  ·exact hv.elim
 ·rename_i s t x d hop hdst
  obtain ⟨hd, rfl, hv⟩ := hv
  split at hv
  ·rename_i b hx
   split at hv
   ·rename_i e c l y hb hy
    split at hv
    ·rename_i e' z hkd hz
     obtain ⟨rfl, hzk, hl, hf, hv⟩ := hv
     have hxe := h.evO x
     rw [hx] at hxe
     have hxe' : a.eval x = m.r b := hxe
     rcases h.blks b _ hb with ⟨-, -, h0⟩ | ⟨k, cap, cur, hr, hc0, hlc, hcm, hh, hsz, hels⟩
     ·exact absurd h0 hl
     have ho : owns m st.b b k := by unfold owns; rw [hb]; simp only; rw [hr]; simp [ownB]; omega
     let w' : World := w.freeze ⟨k, cur.size, none⟩ 1
     have hm : ∀ j, w'.heap[j]? = if j = k then some (.cells cur e' (cur.size, cur.size + 1)) else w.heap[j]? := fun j => by
      show (World.freeze w ⟨k, cur.size, none⟩ 1).heap[j]? = _
      unfold World.freeze
      rw [if_neg (by decide)]
      simp only [Array.getElem?_modify]
      by_cases hjk : j = k
      ·subst hjk; simp [hh]
      ·rw [if_neg (fun h => hjk h.symm), if_neg hjk]
     have hws : w'.heap.size = w.heap.size := by
      show (World.freeze w ⟨k, cur.size, none⟩ 1).heap.size = _
      unfold World.freeze
      rw [if_neg (by decide)]; simp
     have hkp : Keeps (fun j => owns m st.b b j) w w' := ⟨rfl, rfl, rfl, by rw [hws]; exact Nat.le_refl _, fun j _ hj => by rw [hm, if_neg (fun he => hj (by rw [he]; exact ho))]⟩
     have h1 := h.turn b none m w' (fun _ _ => ⟨rfl, rfl⟩) hkp (fun j hj => by simp [owns] at hj) (fun blk hb' => by simp at hb') (fun _ _ => rfl)
     have hrun : (execOp a.eval o).run P w = .ok (.value (m.r b)) w' := by
      have ht := (hT s y hy).slice hkd
      have he := (hT e' z hz).intk hzk
      have hsh : w.shape? k = some (e', cur.size) := by simp [World.shape?, hh]
      simp only [execOp, hop, hxe']
      rw [hr]
      simp [convert, run_underlying ht, run_underlying he, markStringish, hsh]
      rfl
     have hG : ¬ Gd F m (fun b' => if b' = b then none else (st.b b').map (scrB b)) k := fun hg => by
      rcases hg with hf' | ⟨b', hb'⟩
      ·exact (h.own b k ho).2.2 hf'
      ·by_cases hbb : b' = b
       ·subst hbb; simp [owns] at hb'
       ·have hb2 : owns m st.b b' k := by
         unfold owns at hb' ⊢
         simp only [if_neg hbb] at hb'
         cases hs : st.b b' with
         | none => rw [hs] at hb'; simp at hb'
         | some blk => rw [hs] at hb'; cases blk <;> simpa [scrB] using hb'
        exact hbb (h.uniq _ _ _ hb2 ho)
     have hval : RP w' (Gd F m (fun b' => if b' = b then none else (st.b b').map (scrB b))) (.sl c l) (m.r b) := by
      rw [hr]
      have hu : ∀ (i : Nat) (el : List PV) (j : Nat) (p : PV), l[i]? = some el -> el[j]? = some p -> cur[i * c + j]? = some (cur.getD (i * c + j) undef) /\ p.one = true /\ RP w' (Gd F m (fun b' => if b' = b then none else (st.b b').map (scrB b))) p (cur.getD (i * c + j) undef) := fun i el j p hi hj => by
       obtain ⟨h3, u, h4, h5⟩ := (hels i el hi).2 j p hj
       have : cur.getD (i * c + j) undef = u := by simp [Array.getD_eq_getD_getElem?, h4]
       rw [this]
       have hfe := List.all_eq_true.1 (List.all_eq_true.1 hf el (List.mem_of_getElem? hi)) p (List.mem_of_getElem? hj)
       refine ⟨h4, h3, ?_⟩
       cases p with
       | v x => cases h5 with
        | v x h => exact .v _ h
       | _ => simp at hfe
      exact .sl c l k 0 cap (fun i j => cur.getD (i * c + j) undef) hlc hcm (fun _ => ⟨by rw [hws]; exact lt_of_heap hh, hG⟩) (fun i el hi => (hels i el hi).1) (fun i el j p hi hj => (hu i el j p hi hj).2.1)
       (fun i el j p hi hj => by have := (hu i el j p hi hj).1; simpa [World.cell?, hm] using this) (fun i el j p hi hj => (hu i el j p hi hj).2.2)
     exact ⟨_, w', _, m, hrun, by rw [hdst]; exact h1.put (some d) _ _ (fun k hk => by simp only [Option.some.injEq] at hk; subst hk; exact hd) (.of0 (v := .p _) hval), hv⟩
    ·exact hv.elim
   ·exact hv.elim
  ·exact hv.elim
 ·exact hv.elim
theorem awpOps_run [Glob] (hT : TabOK P T) (ops : Array Oper) {K : St -> Prop} {Z : Value -> St -> Prop} {Q : Exit -> Act -> World -> Prop} (hK : ∀ st' a' w' m', K st' -> Rel w0 m0 F X N st' a' w' m' -> Q .normal a' w') (hZ : ∀ y st' a' w' m', Z y st' -> Rel w0 m0 F X N st' a' w' m' -> Q (.panic [{ v := y, recovered := false }]) a' w') : ∀ (l : List Oper) (st : St) (a : Act) (w : World) (m : Nm),
 Rel w0 m0 F X N st a w m -> awpOps P T N ops l st K Z -> wpList P ops Q l a w
 | [], st, a, w, m, h, hv => hK st a w m hv h
 | o :: rest, st, a, w, m, h, hv => by
  simp only [awpOps] at hv
  obtain ⟨bs, hv⟩ := hv
  obtain ⟨m, h⟩ := h.frzL bs
  rcases hv with hv | ⟨hq, hv⟩
  rotate_left
  ·have hw := wantedA_run h hq
   simp only [wpList, hw, if_true]
   obtain ⟨x, w', st', m', hrun, hr, hk⟩ := Lit1_run hT h hv
   exact .inl (run_of_value hrun (awpOps_run hT ops hK hZ rest _ _ _ m' hr hk))
  split at hv
  ·exact hv.elim
  rename_i q hq
  have hw := wantedA_run h hq
  simp only [wpList, hw]
  cases q with
  | true =>
   simp only [if_true]
   exact .inl (stepA_run hT h (hv.1 rfl) (fun st' a' w' m' hk hr => awpOps_run hT ops hK hZ rest st' a' w' m' hr hk) fun y st' w' m' hz hr => hZ y st' a w' m' hz hr)
  | false =>
   obtain ⟨hd, hv⟩ := hv.2 rfl
   simp only [Bool.false_eq_true, if_false]
   exact awpOps_run hT ops hK hZ rest _ _ w m (h.put o.dst (.tup []) undef hd.lt ⟨#[], rfl, rfl, fun i v hi => by simp at hi⟩) hv
end
end Go.Av
