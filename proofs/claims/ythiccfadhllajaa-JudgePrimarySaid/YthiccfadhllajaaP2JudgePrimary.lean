/- Texts that the proof needs: AvOps2. -/
import Derived.Test.YthiccfadhllajaaP1JudgePrimary
namespace Go.Av
set_option linter.unusedSimpArgs false
set_option linter.unusedVariables false
open Go
def aun (op : UnOp) : Value -> Option Value
 | .int k n => match op with
  | .neg => some (.int k (k.wrap (0 - n)))
  | .xor => some (.int k (k.wrap (BitVec.ofInt k.bits (if k.signed then -1 else k.max) ^^^ BitVec.ofInt k.bits n).toNat))
  | _ => none
 | .bool b => match op with
  | .not => some (.bool (!b))
  | _ => none
 | _ => none
def afld (T : TypeId -> Option Ty) (s : TypeId) (f : Nat) (p : V) : Option V :=
 match T s with
 | none => none
 | some y => match y.kd with
  | .struct fs => match fs[f]? with
   | none => none
   | some (off, t) => match T t with
    | none => none
    | some z => if z.size = 0 then none else match p with
     | .ptr b o => some (.ptr b (o + off))
     | .eptr b c i j => some (.eptr b c i (j + off))
     | .rptr e j => some (.rptr e (j + off))
     | _ => none
  | _ => none
def apart (T : TypeId -> Option Ty) (t : TypeId) (l : List PV) (off : Nat) : Option V := ldP T t l off
def afield (T : TypeId -> Option Ty) (s : TypeId) (f : Nat) (p : V) : Option V :=
 match T s with
 | none => none
 | some y => match y.kd with
  | .struct fs => match fs[f]? with
   | none => none
   | some (off, t) => match p with
    | .p (.agg l) => ldP T t l off
    | _ => none
  | _ => none
def aidx (T : TypeId -> Option Ty) (st : St) (t : TypeId) (p i : V) : Option V :=
 match T t with
 | none => none
 | some y => match y.kd with
  | .slice e => match T e with
   | none => none
   | some z => match i with
    | .p (.v (.int _ n)) => if 0 <= n then match p with
     | .p (.sl c l) => if c = z.size then (l[n.toNat]?).map (fun el => .rptr el 0) else none
     | .full c l => if c = z.size then (l[n.toNat]?).map (fun el => .rptr el 0) else none
     | .row b => match st.b b with
      | some (.row _ c l) => if c = z.size /\ n.toNat < l.length then some (.eptr b c n.toNat 0) else none
      | _ => none
     | _ => none
     else none
    | _ => none
  | .array len e => match T e with
   | none => none
   | some z => match i with
    | .p (.v (.int _ n)) => if 0 <= n /\ n.toNat < len then match p with
     | .ptr b o => some (.ptr b (o + n.toNat * z.size))
     | .eptr b c i j => some (.eptr b c i (j + n.toNat * z.size))
     | .rptr e j => some (.rptr e (j + n.toNat * z.size))
     | _ => none
     else none
    | _ => none
  | _ => none
def aindex (T : TypeId -> Option Ty) (t : TypeId) (p i : V) : Option V :=
 match T t with
 | none => none
 | some y => match i with
  | .p (.v (.int _ n)) => if 0 <= n then match y.kd with
   | .str => match p with
    | .p (.v (.string s)) => (s[n.toNat]?).map (fun b => .p (.v (.int .u8 b.toNat)))
    | _ => none
   | .array len e => match T e with
    | none => none
    | some z => match p with
     | .p (.agg l) => if n.toNat < len then ldP T e l (n.toNat * z.size) else none
     | _ => none
   | _ => none
   else none
  | _ => none
def aext (p : V) (i : Nat) : Option V :=
 match p with
 | .tup l => l[i]?
 | _ => none
def alen (st : St) : V -> Option Nat
 | .p (.v (.string s)) => some s.size
 | .p (.sl _ l) => some l.length
 | .full _ l => some l.length
 | .nil _ => some 0
 | .row b => match st.b b with
  | some (.row _ _ l) => some l.length
  | _ => none
 | _ => none
def bnd (v : Option V) (d : Nat) : Option Nat :=
 match v with
 | none => some d
 | some (.p (.v (.int _ n))) => if 0 <= n then some n.toNat else none
 | _ => none
def chunksR (es : List PV) (j c n : Nat) : List (List PV) := (List.range n).map fun i => (es.drop (j + i * c)).take c
def aslice (T : TypeId -> Option Ty) (t : TypeId) (x : V) (lo hi mx : Option V) : Option V :=
 match T t with
 | none => none
 | some y => match y.kd with
  | .str => match x, mx with
   | .p (.v (.string s)), none => match bnd lo 0, bnd hi s.size with
    | some l, some h => if l <= h /\ h <= s.size then some (.p (.v (.string (s.extract l h)))) else none
    | _, _ => none
   | _, _ => none
  | .slice e => match T e with
   | none => none
   | some z => match x with
    | .nil c => match bnd lo 0, bnd hi 0, bnd mx 0 with
     | some 0, some 0, some 0 => if mx.isSome && hi.isNone then none else some (.nil c)
     | _, _, _ => none
    | .p (.sl c l) => if c = z.size then match bnd lo 0, bnd hi l.length with
     | some i, some j => match mx with
      | none => if i <= j /\ j <= l.length then some (.p (.sl c ((l.take j).drop i))) else none
      | some _ => match bnd mx 0 with
       | some k => if i <= j /\ j = k /\ k <= l.length /\ hi.isSome then some (.full c ((l.take j).drop i)) else none
       | none => none
     | _, _ => none
     else none
    | .full c l => if c = z.size then match bnd lo 0, bnd hi l.length with
     | some i, some j => match mx with
      | none => if i <= j /\ j <= l.length then some (if j = l.length then .full c (l.drop i) else .p (.sl c ((l.take j).drop i))) else none
      | some _ => match bnd mx 0 with
       | some k => if i <= j /\ j = k /\ k <= l.length /\ hi.isSome then some (.full c ((l.take j).drop i)) else none
       | none => none
     | _, _ => none
     else none
    | _ => none
  | .array len e => match T e, x, lo, hi, mx with
   | some z, .rptr es j, none, none, none => if 0 < z.size /\ len <= 1000000 /\ j + len * z.size <= es.length then some (.p (.sl z.size (chunksR es j z.size len))) else none
   | _, _, _, _, _ => none
  | _ => none
section
variable {P : Program} {T : TypeId -> Option Ty} {w0 : World} {m0 : Nm} {F X : Nat -> Prop} {N : Nat} {st : St} {a : Act} {w : World} {m : Nm}
theorem aun_run {op : UnOp} {x z : Value} (h : aun op x = some z) (w : World) : (Op.unary op x).run P w = .ok z w := by
 unfold aun at h
 split at h
 ·cases op <;> simp only [Option.some.injEq, reduceCtorEq] at h <;> subst h <;> simp [Op.unary, Op.intArith, Op.intBits]
 ·cases op <;> simp only [Option.some.injEq, reduceCtorEq] at h; subst h; simp [Op.unary]
 ·simp at h
theorem TyOK.struct {t : TypeId} {y : Ty} (h : TyOK P t y) {fs : List (Nat × TypeId)} (hk : y.kd = .struct fs) : ∃ f, P.underlying t = some (.struct f) /\ f.toList.map (fun f => (f.offset, f.type)) = fs := by
 have := h.kind; simpa only [hk] using this
theorem TyOK.slice {t : TypeId} {y : Ty} (h : TyOK P t y) {e : TypeId} (hk : y.kd = .slice e) : P.underlying t = some (.slice e) := by
 have := h.kind; simpa only [hk] using this
theorem TyOK.array {t : TypeId} {y : Ty} (h : TyOK P t y) {e : TypeId} {n : Nat} (hk : y.kd = .array n e) : P.underlying t = some (.array n e) := by
 have := h.kind; simpa only [hk] using this
theorem TyOK.str {t : TypeId} {y : Ty} (h : TyOK P t y) (hk : y.kd = .str) : P.underlying t = some .string := by
 have := h.kind; simpa only [hk] using this
theorem TyOK.intk {t : TypeId} {y : Ty} (h : TyOK P t y) {k : IntKind} (hk : y.kd = .int k) : P.underlying t = some (.int k) := by
 have := h.kind; simpa only [hk] using this
theorem field_get {f : Array Field} {fs : List (Nat × TypeId)} (hf : f.toList.map (fun f => (f.offset, f.type)) = fs) {i : Nat} {off : Nat} {t : TypeId} (h : fs[i]? = some (off, t)) :
 ∃ fd, f[i]? = some fd /\ fd.offset = off /\ fd.type = t := by
 subst hf
 rw [List.getElem?_map] at h
 cases hi : f.toList[i]? with
 | none => rw [hi] at h; simp at h
 | some fd =>
  rw [hi] at h
  simp only [Option.map_some, Option.some.injEq, Prod.mk.injEq] at h
  exact ⟨fd, by simpa using hi, h.1, h.2⟩
theorem afld_run [Glob] (hT : TabOK P T) {s : TypeId} {f : Nat} {p v : V} (h : afld T s f p = some v) {G : Nat -> Prop} {q : Value} (hq : RV w G m p q) :
 ∃ x, (Instr.fieldAt s q f).run P w = .ok x w /\ RV w G m v x := by
 unfold afld at h
 split at h
 ·simp at h
 rename_i y hy
 split at h
 ·rename_i fs hkd
  split at h
  ·simp at h
  rename_i off t hf
  split at h
  ·simp at h
  rename_i z hz
  split at h
  ·simp at h
  rename_i hz0
  obtain ⟨fa, hu, hfa⟩ := (hT s y hy).struct hkd
  obtain ⟨fd, hfd, h1, h2⟩ := field_get hfa hf
  have key : ∀ k o, (Instr.fieldAt s (.pointer (some ⟨k, o, none⟩)) f).run P w = .ok (.pointer (some ⟨k, o + off, none⟩)) w := fun k o => by
   have hsz := (hT t z hz).run_info w
   rw [<- h2] at hsz
   simp [Instr.fieldAt, run_underlying hu, hfd, Instr.sureAddr, fieldPlace, hsz, hz0, addr_add, h1]
  split at h
  ·rename_i b o
   simp only [Option.some.injEq] at h; subst h
   rw [show q = .pointer (some ⟨m.i b, o, none⟩) from hq]
   exact ⟨_, key _ _, .of0 (v := .ptr _ _) rfl⟩
  ·rename_i b c i j
   simp only [Option.some.injEq] at h; subst h
   obtain ⟨k, hk, rfl⟩ := hq
   exact ⟨_, key _ _, .of0 (v := .eptr _ _ _ _) ⟨k, hk, by rw [Nat.add_assoc]⟩⟩
  ·rename_i e j
   simp only [Option.some.injEq] at h; subst h
   obtain ⟨k, o, rfl, he⟩ := hq
   exact ⟨_, key _ _, .of0 (v := .rptr _ _) ⟨k, o, by rw [Nat.add_assoc], he⟩⟩
  ·simp at h
 ·simp at h
theorem part_run [Glob] (hT : TabOK P T) {t : TypeId} {l : List PV} {off : Nat} {v : V} (h : ldP T t l off = some v) {G : Nat -> Prop} {cs : Array Value} (hc : AR w G l cs) :
 ∃ x, (part t cs off).run P w = .ok x w /\ RV w G m v x := by
 unfold ldP at h
 split at h
 ·simp at h
 rename_i y hy
 have ht := hT t y hy
 split at h
 ·rename_i hk
  split at h
  ·rename_i hl
   simp only [Option.some.injEq] at h
   subst h
   refine ⟨.agg (cs.extract off (off + y.size)), by simp [part, ht.run_isAgg, hk, ht.run_info], .of0 (v := .p _) (AR.agg ⟨by simp [hc.1]; omega, fun j p hj => ?_⟩)⟩
   rw [List.getElem?_take] at hj
   split at hj
   ·rename_i hjs
    rw [List.getElem?_drop] at hj
    obtain ⟨h1, u, h2, h3⟩ := hc.2 _ p hj
    refine ⟨h1, u, ?_, h3⟩
    have hcs : off + y.size <= cs.size := by have := hc.1; omega
    rw [Array.getElem?_extract, if_pos (by omega)]
    exact h2
   ·simp at hj
  ·simp at h
 ·rename_i hk
  simp only [Option.map_eq_some_iff] at h
  obtain ⟨p, hp, rfl⟩ := h
  obtain ⟨-, u, h1, h2⟩ := hc.2 _ p hp
  exact ⟨u, by simp [part, ht.run_isAgg, hk, h1], .of0 (v := .p _) h2⟩
theorem RP.aggI [Glob] {G : Nat -> Prop} {l : List PV} {x : Value} (h : RP w G (.agg l) x) : ∃ cs, x = .agg cs /\ AR w G l cs := by
 have := h.flat
 cases h with
 | agg l cs u hs hone hcell hr => exact ⟨cs, rfl, this⟩
theorem afield_run [Glob] (hT : TabOK P T) {s : TypeId} {f : Nat} {p v : V} (h : afield T s f p = some v) {G : Nat -> Prop} {q : Value} (hq : RV w G m p q) :
 ∃ x, (Instr.field s q f).run P w = .ok x w /\ RV w G m v x := by
 unfold afield at h
 split at h
 ·simp at h
 rename_i y hy
 split at h
 ·rename_i fs hkd
  split at h
  ·simp at h
  rename_i off t hf
  split at h
  ·rename_i l
   obtain ⟨cs, rfl, har⟩ := RP.aggI (G := G) (show RP w G (.agg l) q from hq)
   obtain ⟨fa, hu, hfa⟩ := (hT s y hy).struct hkd
   obtain ⟨fd, hfd, h1, h2⟩ := field_get hfa hf
   obtain ⟨x, hx, hr⟩ := part_run (m := m) hT h har
   refine ⟨x, ?_, hr⟩
   have : (Instr.field s (.agg cs) f).run P w = (part t cs off).run P w := by
    simp [Instr.field, run_underlying hu, hfd, asAgg, h1, h2]
   rw [this]; exact hx
  ·simp at h
 ·simp at h
theorem RP.slI {G : Nat -> Prop} {c : Nat} {l : List (List PV)} {x : Value} (h : RP w G (.sl c l) x) :
 (∃ b0, x = .slice b0 0 0 /\ l = []) \/ ∃ k off cap, x = .slice (some ⟨k, off, none⟩) l.length cap /\ l.length <= cap /\ cap <= maxLen /\ (l ≠ [] -> k < w.heap.size /\ ¬ G k) /\ (∀ (i : Nat) (e : List PV), l[i]? = some e -> e.length = c /\ REc w G e k (off + i * c)) := by
 cases h with
 | nil => exact .inl ⟨_, rfl, rfl⟩
 | emp => exact .inl ⟨_, rfl, rfl⟩
 | sl c l k off cap u hlen hm hk hc hone hcell hr =>
  exact .inr ⟨k, off, cap, rfl, hlen, hm, hk, fun i e hi => ⟨hc i e hi, fun j p hj => ⟨hone i e j p hi hj, u i j, by rw [Nat.add_assoc]; exact hcell i e j p hi hj, hr i e j p hi hj⟩⟩⟩
theorem RP.slM {G : Nat -> Prop} {c : Nat} {l : List (List PV)} {k off cap : Nat} (hlen : l.length <= cap) (hm : cap <= maxLen) (hk : l ≠ [] -> k < w.heap.size /\ ¬ G k)
 (he : ∀ (i : Nat) (e : List PV), l[i]? = some e -> e.length = c /\ REc w G e k (off + i * c)) : RP w G (.sl c l) (.slice (some ⟨k, off, none⟩) l.length cap) := by
 have hf : ∀ (i : Nat) (e : List PV) (j : Nat) (p : PV), l[i]? = some e -> e[j]? = some p -> p.one = true /\ w.cell? ⟨k, off + (i * c + j), none⟩ = some ((w.cell? ⟨k, off + (i * c + j), none⟩).getD undef) /\ RP w G p ((w.cell? ⟨k, off + (i * c + j), none⟩).getD undef) := fun i e j p hi hj => by
  obtain ⟨h1, u, h2, h3⟩ := (he i e hi).2 j p hj
  rw [Nat.add_assoc] at h2
  rw [h2]; exact ⟨h1, rfl, h3⟩
 exact .sl c l k off cap (fun i j => (w.cell? ⟨k, off + (i * c + j), none⟩).getD undef) hlen hm hk (fun i e hi => (he i e hi).1) (fun i e j p hi hj => (hf i e j p hi hj).1)
  (fun i e j p hi hj => (hf i e j p hi hj).2.1) (fun i e j p hi hj => (hf i e j p hi hj).2.2)
theorem sl_idx [Glob] (hT : TabOK P T) {t e : TypeId} (hu : P.underlying t = some (.slice e)) {z : Ty} (hz : T e = some z) {G : Nat -> Prop} {l : List (List PV)} {x : Value} (h : RP w G (.sl z.size l) x) {k : IntKind} {n : Int} (hn : 0 <= n) {el : List PV}
 (hel : l[n.toNat]? = some el) : ∃ q, (Instr.indexAt t x (.int k n)).run P w = .ok q w /\ RV w G m (.rptr el 0) q := by
 have hlt : n.toNat < l.length := (List.getElem?_eq_some_iff.1 hel).1
 rcases h.slI with ⟨-, -, rfl⟩ | ⟨b, off, cap, rfl, h1, h2, h3, h4⟩
 ·simp at hlt
 ·have hne : l ≠ [] := by intro h0; subst h0; simp at hlt
  refine ⟨.pointer (some ⟨b, off + n.toNat * z.size, none⟩), ?_, .of0 (v := .rptr _ _) ⟨b, off + n.toNat * z.size, by simp, fun _ => h3 hne, (h4 _ el hel).2⟩⟩
  have hr : 0 <= n /\ n < (l.length : Int) := ⟨hn, by omega⟩
  simp [Instr.indexAt, run_underlying hu, asIntOf, hr, (hT e z hz).run_info, addr_add]
theorem aidx_run [Glob] (hT : TabOK P T) (h : Rel w0 m0 F X N st a w m) {t : TypeId} {p i v : V} (hv : aidx T st t p i = some v) {q qi : Value} (hq : RV w (Gd F m st.b) m p q) (hqi : RV w (Gd F m st.b) m i qi) :
 ∃ x, (Instr.indexAt t q qi).run P w = .ok x w /\ RV w (Gd F m st.b) m v x := by
 unfold aidx at hv
 split at hv
 ·simp at hv
 rename_i y hy
 split at hv
 ·rename_i e hkd
  have hu := (hT t y hy).slice hkd
  split at hv
  ·simp at hv
  rename_i z hz
  split at hv
  ·rename_i kk n
   have hqi' : qi = .int kk n := by cases (show RP w _ _ qi from hqi); rfl
   subst hqi'
   split at hv
   ·rename_i hn
    split at hv
    ·rename_i c l
     split at hv
     ·rename_i hc
      subst hc
      simp only [Option.map_eq_some_iff] at hv
      obtain ⟨el, hel, rfl⟩ := hv
      exact sl_idx hT hu hz hq hn hel
     ·simp at hv
    ·rename_i c l
     split at hv
     ·rename_i hc
      subst hc
      simp only [Option.map_eq_some_iff] at hv
      obtain ⟨el, hel, rfl⟩ := hv
      exact sl_idx hT hu hz hq.1 hn hel
     ·simp at hv
    ·rename_i b
     split at hv
     ·rename_i e' c l hb
      split at hv
      ·rename_i hc
       obtain ⟨hc, hlt⟩ := hc
       subst hc
       simp only [Option.some.injEq] at hv
       subst hv
       rw [show q = m.r b from hq]
       rcases h.blks b _ hb with ⟨-, -, hl0⟩ | ⟨g, cap, cur, hv, hc0, hlc, hcm, hh, hs, hl⟩
       ·subst hl0; simp at hlt
       ·rw [hv]
        refine ⟨.pointer (some ⟨g, n.toNat * z.size, none⟩), ?_, .of0 (v := .eptr _ _ _ _) ⟨g, by simp [hv, ownB]; omega, rfl⟩⟩
        have hr : 0 <= n /\ n < (l.length : Int) := ⟨hn, by omega⟩
        simp [Instr.indexAt, run_underlying hu, asIntOf, hr, (hT e z hz).run_info, addr_add]
      ·simp at hv
     ·simp at hv
    ·simp at hv
   ·simp at hv
  ·simp at hv
 ·rename_i len e hkd
  have hu := (hT t y hy).array hkd
  split at hv
  ·simp at hv
  rename_i z hz
  split at hv
  ·rename_i kk n
   have hqi' : qi = .int kk n := by cases (show RP w _ _ qi from hqi); rfl
   subst hqi'
   split at hv
   ·rename_i hn
    have hr : 0 <= n /\ n < (len : Int) := ⟨hn.1, by omega⟩
    have key : ∀ k o, (Instr.indexAt t (.pointer (some ⟨k, o, none⟩)) (.int kk n)).run P w = .ok (.pointer (some ⟨k, o + n.toNat * z.size, none⟩)) w := fun k o => by
     simp [Instr.indexAt, run_underlying hu, asIntOf, Instr.sureAddr, hr, (hT e z hz).run_info, addr_add]
    split at hv
    ·rename_i b o
     simp only [Option.some.injEq] at hv; subst hv
     rw [show q = .pointer (some ⟨m.i b, o, none⟩) from hq]
     exact ⟨_, key _ _, .of0 (v := .ptr _ _) rfl⟩
    ·rename_i b c i j
     simp only [Option.some.injEq] at hv; subst hv
     obtain ⟨k, hk, rfl⟩ := hq
     exact ⟨_, key _ _, .of0 (v := .eptr _ _ _ _) ⟨k, hk, by rw [Nat.add_assoc]⟩⟩
    ·rename_i e' j
     simp only [Option.some.injEq] at hv; subst hv
     obtain ⟨k, o, rfl, he⟩ := hq
     exact ⟨_, key _ _, .of0 (v := .rptr _ _) ⟨k, o, by rw [Nat.add_assoc], he⟩⟩
    ·simp at hv
   ·simp at hv
  ·simp at hv
 ·simp at hv
theorem aindex_run [Glob] (hT : TabOK P T) {G : Nat -> Prop} {t : TypeId} {p i v : V} (hv : aindex T t p i = some v) {q qi : Value} (hq : RV w G m p q) (hqi : RV w G m i qi) :
 ∃ x, (Instr.index t q qi).run P w = .ok x w /\ RV w G m v x := by
 unfold aindex at hv
 split at hv
 ·simp at hv
 rename_i y hy
 split at hv
 ·rename_i kk n
  have hqi' : qi = .int kk n := by cases (show RP w _ _ qi from hqi); rfl
  subst hqi'
  split at hv
  ·rename_i hn
   split at hv
   ·rename_i hkd
    have hu := (hT t y hy).str hkd
    split at hv
    ·rename_i s
     have hq' : q = .string s := by cases (show RP w _ _ q from hq); rfl
     subst hq'
     simp only [Option.map_eq_some_iff] at hv
     obtain ⟨b, hb, rfl⟩ := hv
     exact ⟨.int .u8 b.toNat, by simp [Instr.index, run_underlying hu, asIntOf, hn, hb], .of0 (v := .p _) (.v _ rfl)⟩
    ·simp at hv
   ·rename_i len e hkd
    have hu := (hT t y hy).array hkd
    split at hv
    ·simp at hv
    rename_i z hz
    split at hv
    ·rename_i l
     split at hv
     ·rename_i hlt
      obtain ⟨cs, rfl, har⟩ := RP.aggI (G := G) (show RP w G (.agg l) q from hq)
      obtain ⟨x, hx, hr⟩ := part_run (m := m) hT hv har
      refine ⟨x, ?_, hr⟩
      have hr' : 0 <= n /\ n < (len : Int) := ⟨hn, by omega⟩
      have : (Instr.index t (.agg cs) (.int kk n)).run P w = (part e cs (n.toNat * z.size)).run P w := by
       simp [Instr.index, run_underlying hu, asIntOf, hr', (hT e z hz).run_info]
      rw [this]; exact hx
     ·simp at hv
    ·simp at hv
   ·simp at hv
  ·simp at hv
 ·simp at hv
theorem aext_run {G : Nat -> Prop} {p v : V} {i : Nat} (hv : aext p i = some v) {q : Value} (hq : RV w G m p q) : ∃ x, (Instr.extract q i).run P w = .ok x w /\ RV w G m v x := by
 unfold aext at hv
 split at hv
 ·rename_i l
  obtain ⟨xs, rfl, hs, hl⟩ := hq
  obtain ⟨y, hy, hr⟩ := hl i v hv
  exact ⟨y, by simp [Instr.extract, hy], .of0 hr⟩
 ·simp at hv
theorem alen_run [Glob] (h : Rel w0 m0 F X N st a w m) {p : V} {n : Nat} (hv : alen st p = some n) {q : Value} (hq : RV w (Gd F m st.b) m p q) :
 (∃ s, q = .string s /\ n = s.size) \/ ∃ b c, q = .slice b n c := by
 unfold alen at hv
 split at hv
 ·rename_i s
  have hq' : q = .string s := by cases (show RP w _ _ q from hq); rfl
  simp only [Option.some.injEq] at hv
  exact .inl ⟨s, hq', hv.symm⟩
 ·rename_i c l
  simp only [Option.some.injEq] at hv
  subst hv
  rcases RP.slI (show RP w _ _ q from hq) with ⟨b0, rfl, rfl⟩ | ⟨k, off, cap, rfl, -⟩
  ·exact .inr ⟨b0, 0, rfl⟩
  ·exact .inr ⟨_, _, rfl⟩
 ·rename_i c l
  simp only [Option.some.injEq] at hv
  subst hv
  obtain ⟨-, b, rfl⟩ := hq
  exact .inr ⟨_, _, rfl⟩
 ·simp only [Option.some.injEq] at hv
  subst hv
  rw [show q = .slice none 0 0 from hq]
  exact .inr ⟨_, _, rfl⟩
 ·rename_i b
  split at hv
  ·rename_i e c l hb
   simp only [Option.some.injEq] at hv
   subst hv
   rw [show q = m.r b from hq]
   rcases h.blks b _ hb with ⟨-, ⟨a', ha⟩, hl0⟩ | ⟨g, cap, cur, hv, -⟩
   ·rw [ha, hl0]; exact .inr ⟨_, _, rfl⟩
   ·rw [hv]; exact .inr ⟨_, _, rfl⟩
  ·simp at hv
 ·simp at hv
def RVo (w : World) (G : Nat -> Prop) (m : Nm) : Option V -> Option Value -> Prop
 | none, none => True
 | some v, some q => RV w G m v q
 | _, _ => False
theorem bnd_run {G : Nat -> Prop} {v : Option V} {d n : Nat} (h : bnd v d = some n) {q : Option Value} (hq : RVo w G m v q) :
 (v = none /\ q = none /\ n = d) \/ ∃ k i, q = some (.int k i) /\ 0 <= i /\ n = i.toNat /\ v.isSome = true := by
 cases v with
 | none =>
  simp only [bnd, Option.some.injEq] at h
  cases q with
  | none => exact .inl ⟨rfl, rfl, h.symm⟩
  | some q => exact hq.elim
 | some v =>
  cases q with
  | none => exact hq.elim
  | some q =>
   cases v <;> try (simp [bnd] at h; done)
   rename_i p
   cases p <;> try (simp [bnd] at h; done)
   rename_i x
   cases x <;> try (simp [bnd] at h; done)
   rename_i k i
   simp only [bnd] at h
   split at h
   ·rename_i hi
    simp only [Option.some.injEq] at h
    have hq' : q = .int k i := by cases (show RP w _ _ q from hq); rfl
    exact .inr ⟨k, i, by rw [hq'], hi, h.symm, rfl⟩
   ·simp at h
theorem run_bound (k : IntKind) (i : Int) (y : Nat) (code : BoundsCode) (h0 : 0 <= i) (h1 : i.toNat <= y) : (Instr.sliceBound (.int k i) y code).run P w = .ok i.toNat w := by
 have : 0 <= i /\ i <= (y : Int) := ⟨h0, by omega⟩
 simp [Instr.sliceBound, asIntOf, this]
theorem bounds_run [Glob] {G : Nat -> Prop} {lo hi mx : Option V} {len cap i j : Nat} {ql qh qm : Option Value} (hl : RVo w G m lo ql) (hh : RVo w G m hi qh) (hm : RVo w G m mx qm)
 (h1 : bnd lo 0 = some i) (h2 : bnd hi len = some j) (isS : Bool) (hij : i <= j) :
 (mx = none -> j <= cap -> (Instr.sliceBounds isS len cap ql qh qm).run P w = .ok (i, j, cap) w) ∧
 (∀ k, mx.isSome = true -> hi.isSome = true -> bnd mx 0 = some k -> j <= k -> k <= cap -> (Instr.sliceBounds isS len cap ql qh qm).run P w = .ok (i, j, k) w) := by
 constructor
 ·intro hmx hj
  subst hmx
  cases qm with
  | some q => exact hm.elim
  | none =>
   rcases bnd_run h1 hl with ⟨rfl, rfl, rfl⟩ | ⟨k, n, rfl, hn, rfl, -⟩ <;> rcases bnd_run h2 hh with ⟨rfl, rfl, rfl⟩ | ⟨k', n', rfl, hn', rfl, -⟩
   ·simp [Instr.sliceBounds]
   ·simp [Instr.sliceBounds, run_bound _ _ _ _ hn' hj]
   ·simp [Instr.sliceBounds, run_bound _ _ _ _ hn hij]
   ·simp [Instr.sliceBounds, run_bound _ _ _ _ hn' hj, run_bound _ _ _ _ hn hij]
 ·intro k hmx hhi h3 hj hk
  rcases bnd_run h3 hm with ⟨rfl, -, -⟩ | ⟨k3, n3, rfl, hn3, rfl, -⟩
  ·simp at hmx
  ·rcases bnd_run h2 hh with ⟨rfl, -, -⟩ | ⟨k', n', rfl, hn', rfl, -⟩
   ·simp at hhi
   ·rcases bnd_run h1 hl with ⟨rfl, rfl, rfl⟩ | ⟨k, n, rfl, hn, rfl, -⟩
    ·simp [Instr.sliceBounds, run_bound _ _ _ _ hn3 hk, run_bound _ _ _ _ hn' hj]
    ·simp [Instr.sliceBounds, run_bound _ _ _ _ hn3 hk, run_bound _ _ _ _ hn' hj, run_bound _ _ _ _ hn hij]
theorem RP.piece [Glob] {G : Nat -> Prop} {c : Nat} {l : List (List PV)} {k off cap : Nat} (h1 : l.length <= cap) (h2 : cap <= maxLen) (h3 : l ≠ [] -> k < w.heap.size /\ ¬ G k)
 (h4 : ∀ (i : Nat) (e : List PV), l[i]? = some e -> e.length = c /\ REc w G e k (off + i * c)) {i j mx : Nat} (hij : i <= j) (hj : j <= l.length) (hjm : j <= mx) (hmx : mx <= cap) :
 RP w G (.sl c ((l.take j).drop i)) (.slice (if mx = i then some ⟨k, off, none⟩ else some ⟨k, off + i * c, none⟩) (j - i) (mx - i)) := by
 have hlen : ((l.take j).drop i).length = j - i := by simp; omega
 by_cases hmi : mx = i
 ·have h0 : (l.take j).drop i = [] := List.eq_nil_of_length_eq_zero (by omega)
  rw [if_pos hmi, h0]
  have := RP.slM (w := w) (G := G) (c := c) (l := []) (k := k) (off := off) (cap := mx - i) (by simp) (by omega) (fun h => absurd rfl h) (fun i e h => by simp at h)
  simp only [List.length_nil] at this
  rw [show j - i = 0 from by omega]; exact this
 ·rw [if_neg hmi, <- hlen]
  refine RP.slM (by omega) (by omega) (fun hne => h3 (by rintro rfl; simp at hne)) (fun n e hn => ?_)
  rw [List.getElem?_drop, List.getElem?_take] at hn
  split at hn
  ·obtain ⟨h5, h6⟩ := h4 _ e hn
   refine ⟨h5, ?_⟩
   rw [show off + i * c + n * c = off + (i + n) * c from by rw [Nat.add_mul]; omega]
   exact h6
  ·simp at hn
theorem run_slice_of [Glob] {t e : TypeId} {z : Ty} (hT : TabOK P T) (hu : P.underlying t = some (.slice e)) (hz : T e = some z) {b : Option Addr} {len cap i j k : Nat} {lo hi mx : Option Value} (h : (Instr.sliceBounds true len cap lo hi mx).run P w = .ok (i, j, k) w) :
 (Instr.sliceAt t (.slice b len cap) lo hi mx).run P w = .ok (.slice (if k = i then b else b.map (·.add (i * z.size))) (j - i) (k - i)) w := by
 simp [Instr.sliceAt, Instr.slice, run_underlying hu, h, (hT e z hz).run_info]
theorem aslice_run [Glob] (hT : TabOK P T) {G : Nat -> Prop} {t : TypeId} {x v : V} {lo hi mx : Option V} (hv : aslice T t x lo hi mx = some v) {q : Value} {ql qh qm : Option Value} (hq : RV w G m x q)
 (hl : RVo w G m lo ql) (hh : RVo w G m hi qh) (hm : RVo w G m mx qm) : ∃ r, (Instr.sliceAt t q ql qh qm).run P w = .ok r w /\ RV w G m v r := by
 unfold aslice at hv
 split at hv
 ·simp at hv
 rename_i y hy
 split at hv
 ·rename_i hkd
  have hu := (hT t y hy).str hkd
  split at hv
  ·rename_i s
   have hq' : q = .string s := by cases (show RP w _ _ q from hq); rfl
   subst hq'
   split at hv
   ·rename_i i j h1 h2
    split at hv
    ·rename_i hc
     simp only [Option.some.injEq] at hv
     subst hv
     have := (bounds_run (P := P) (cap := s.size) hl hh hm h1 h2 false hc.1).1 rfl hc.2
     cases qm with
     | some q => exact hm.elim
     | none => exact ⟨.string (s.extract i j), by simp [Instr.sliceAt, Instr.slice, run_underlying hu, this], .of0 (v := .p _) (.v _ rfl)⟩
    ·simp at hv
   ·simp at hv
  ·simp at hv
 ·rename_i e hkd
  have hu := (hT t y hy).slice hkd
  split at hv
  ·simp at hv
  rename_i z hz
  split at hv
  ·rename_i c
   split at hv
   ·rename_i h1 h2 h3
    split at hv
    ·simp at hv
    rename_i hno
    simp only [Option.some.injEq] at hv
    subst hv
    rw [show q = .slice none 0 0 from hq]
    have hb : (Instr.sliceBounds true 0 0 ql qh qm).run P w = .ok (0, 0, 0) w := by
     cases mx with
     | none => exact (bounds_run (P := P) (cap := 0) hl hh hm h1 h2 true (Nat.le_refl _)).1 rfl (Nat.le_refl _)
     | some u =>
      refine (bounds_run (P := P) (cap := 0) hl hh hm h1 h2 true (Nat.le_refl _)).2 0 rfl ?_ h3 (Nat.le_refl _) (Nat.le_refl _)
      cases hi with
      | none => simp at hno
      | some _ => rfl
    exact ⟨_, run_slice_of hT hu hz hb, .of0 (v := .nil _) rfl⟩
   ·simp at hv
  ·rename_i c l
   split at hv
   ·rename_i hc
    subst hc
    split at hv
    ·rename_i i j h1 h2
     have hqq := RP.slI (show RP w G (.sl z.size l) q from hq)
     have key : ∀ cap k, i <= j -> j <= l.length -> j <= k -> k <= cap -> l.length <= cap -> (∀ b, q = .slice b l.length cap -> (Instr.sliceBounds true l.length cap ql qh qm).run P w = .ok (i, j, k) w) -> (∃ b, q = .slice b l.length cap) →
      ∃ r, (Instr.sliceAt t q ql qh qm).run P w = .ok r w /\ RP w G (.sl z.size ((l.take j).drop i)) r /\ ∃ b, r = .slice b (j - i) (k - i) := fun cap k hij hj hjk hk hcap hb hqc => by
      obtain ⟨b0, hb0⟩ := hqc
      rcases hqq with ⟨b1, rfl, rfl⟩ | ⟨kb, off, cap', rfl, h5, h6, h7, h8⟩
      ·simp only [Value.slice.injEq] at hb0
       obtain ⟨rfl, -, rfl⟩ := hb0
       simp only [List.length_nil] at hj hk
       refine ⟨_, run_slice_of hT hu hz (hb _ rfl), ?_, _, rfl⟩
       have e1 : j = 0 := by omega
       have e2 : i = 0 := by omega
       have e3 : k = 0 := by omega
       subst e1 e2 e3
       exact RP.emp' _ _
      ·simp only [Value.slice.injEq, true_and] at hb0
       obtain ⟨rfl, rfl⟩ := hb0
       refine ⟨_, run_slice_of hT hu hz (hb _ rfl), ?_, _, rfl⟩
       have := RP.piece h5 h6 h7 h8 hij hj hjk hk
       simpa [addr_add] using this
     have hcap : ∃ b cap, q = .slice b l.length cap /\ l.length <= cap := by
      rcases hqq with ⟨b1, rfl, rfl⟩ | ⟨kb, off, cap, rfl, h5, -⟩
      ·exact ⟨_, _, rfl, Nat.le_refl _⟩
      ·exact ⟨_, _, rfl, h5⟩
     obtain ⟨b, cap, hqc, hlc⟩ := hcap
     split at hv
     ·split at hv
      ·rename_i hcnd
       simp only [Option.some.injEq] at hv
       subst hv
       obtain ⟨r, hr, hrp, -⟩ := key cap cap hcnd.1 hcnd.2 (by omega) (Nat.le_refl _) hlc (fun _ _ => (bounds_run (P := P) (cap := cap) hl hh hm h1 h2 true hcnd.1).1 rfl (by omega)) ⟨b, hqc⟩
       exact ⟨r, hr, .of0 (v := .p _) hrp⟩
      ·simp at hv
     ·split at hv
      ·rename_i k h3
       split at hv
       ·rename_i hcnd
        simp only [Option.some.injEq] at hv
        subst hv
        obtain ⟨hij, rfl, hkl, hhi⟩ := hcnd
        obtain ⟨r, hr, hrp, b', hb'⟩ := key cap j hij hkl (Nat.le_refl _) (by omega) hlc (fun _ _ => (bounds_run (P := P) (cap := cap) hl hh hm h1 h2 true hij).2 j rfl hhi h3 (Nat.le_refl _) (by omega)) ⟨b, hqc⟩
        have hlen : ((l.take j).drop i).length = j - i := by simp; omega
        exact ⟨r, hr, .of0 (v := .full _ _) ⟨hrp, b', by rw [hlen]; exact hb'⟩⟩
       ·simp at hv
      ·simp at hv
    ·simp at hv
   ·simp at hv
  ·rename_i c l
   split at hv
   ·rename_i hc
    subst hc
    split at hv
    ·rename_i i j h1 h2
     obtain ⟨hq1, b, hqc⟩ := (show RP w G (.sl z.size l) q /\ ∃ a, q = .slice a l.length l.length from hq)
     have hqq := RP.slI hq1
     have key : ∀ k, i <= j -> j <= l.length -> j <= k -> k <= l.length -> (Instr.sliceBounds true l.length l.length ql qh qm).run P w = .ok (i, j, k) w →
      ∃ r, (Instr.sliceAt t q ql qh qm).run P w = .ok r w /\ RP w G (.sl z.size ((l.take j).drop i)) r /\ ∃ b, r = .slice b (j - i) (k - i) := fun k hij hj hjk hk hb => by
      rcases hqq with ⟨b1, rfl, rfl⟩ | ⟨kb, off, cap', rfl, h5, h6, h7, h8⟩
      ·simp only [List.length_nil] at hj hk
       refine ⟨_, run_slice_of hT hu hz hb, ?_, _, rfl⟩
       have e1 : j = 0 := by omega
       have e2 : i = 0 := by omega
       have e3 : k = 0 := by omega
       subst e1 e2 e3
       exact RP.emp' _ _
      ·simp only [Value.slice.injEq, true_and] at hqc
       obtain ⟨-, rfl⟩ := hqc
       refine ⟨_, run_slice_of hT hu hz hb, ?_, _, rfl⟩
       have := RP.piece h5 h6 h7 h8 hij hj hjk hk
       simpa [addr_add] using this
     split at hv
     ·split at hv
      ·rename_i hcnd
       simp only [Option.some.injEq] at hv
       subst hv
       obtain ⟨r, hr, hrp, b', hb'⟩ := key l.length hcnd.1 hcnd.2 (by omega) (Nat.le_refl _) ((bounds_run (P := P) (cap := l.length) hl hh hm h1 h2 true hcnd.1).1 rfl (by omega))
       refine ⟨r, hr, ?_⟩
       split
       ·rename_i hjl
        have e1 : (l.take j).drop i = l.drop i := by rw [hjl, List.take_length]
        rw [e1] at hrp
        refine .of0 (v := .full _ _) ⟨hrp, b', ?_⟩
        rw [hb', hjl]; simp
       ·exact .of0 (v := .p _) hrp
      ·simp at hv
     ·split at hv
      ·rename_i k h3
       split at hv
       ·rename_i hcnd
        simp only [Option.some.injEq] at hv
        subst hv
        obtain ⟨hij, rfl, hkl, hhi⟩ := hcnd
        obtain ⟨r, hr, hrp, b', hb'⟩ := key j hij hkl (Nat.le_refl _) (by omega) ((bounds_run (P := P) (cap := l.length) hl hh hm h1 h2 true hij).2 j rfl hhi h3 (Nat.le_refl _) (by omega))
        have hlen : ((l.take j).drop i).length = j - i := by simp; omega
        exact ⟨r, hr, .of0 (v := .full _ _) ⟨hrp, b', by rw [hlen]; exact hb'⟩⟩
       ·simp at hv
      ·simp at hv
    ·simp at hv
   ·simp at hv
  ·simp at hv
 ·rename_i len e hkd
  have hu := (hT t y hy).array hkd
  split at hv
  ·rename_i z es j hz
   split at hv
   ·rename_i hc
    obtain ⟨h0, h1, h2⟩ := hc
    simp only [Option.some.injEq] at hv
    subst hv
    obtain ⟨k, off, rfl, he1, he2⟩ := (show ∃ k off, q = .pointer (some ⟨k, off + j, none⟩) /\ RE w G es k off from hq)
    have e1 : ql = none := by cases ql with
     | none => rfl
     | some _ => exact hl.elim
    have e2 : qh = none := by cases qh with
     | none => rfl
     | some _ => exact hh.elim
    have e3 : qm = none := by cases qm with
     | none => rfl
     | some _ => exact hm.elim
    subst e1 e2 e3
    have hlen : (chunksR es j z.size len).length = len := by simp [chunksR]
    refine ⟨.slice (some ⟨k, off + j, none⟩) (chunksR es j z.size len).length len, ?_, .of0 (v := .p _) (RP.slM (by omega) (by simp [maxLen]; omega) (fun hne => he1 ?_) fun i el hi => ?_)⟩
    ·rw [hlen]
     by_cases hl0 : len = 0
     ·subst hl0
      simp [Instr.sliceAt, run_underlying hu, Instr.sureAddr, Instr.sliceBounds, (hT e z hz).run_info]
     ·simp [Instr.sliceAt, run_underlying hu, Instr.sureAddr, Instr.sliceBounds, (hT e z hz).run_info, addr_add]
    ·rintro rfl
     have h3 : len * z.size = 0 := by
      have : j + len * z.size <= 0 := h2
      omega
     have h4 : len = 0 := by
      rcases Nat.mul_eq_zero.1 h3 with h | h
      ·exact h
      ·omega
     subst h4
     exact hne rfl
    ·have hil : i < len := by
      have := (List.getElem?_eq_some_iff.1 hi).1
      omega
     have hel : el = (es.drop (j + i * z.size)).take z.size := by
      simp [chunksR, hil] at hi
      exact hi.symm
     have hmul : i * z.size + z.size <= len * z.size := by
      rw [<- Nat.succ_mul]; exact Nat.mul_le_mul_right _ hil
     refine ⟨by rw [hel]; simp; omega, fun n p hn => ?_⟩
     rw [hel, List.getElem?_take] at hn
     split at hn
     ·rw [List.getElem?_drop] at hn
      obtain ⟨ho, u, hcell, hrp⟩ := he2 _ p hn
      exact ⟨ho, u, by rw [<- hcell]; congr 2; omega, hrp⟩
     ·simp at hn
   ·simp at hv
  ·simp at hv
 ·simp at hv
def rsl (T : TypeId -> Option Ty) (st : St) (t : TypeId) (b : Nat) (lo hi mx : Option V) : Option V :=
 match T t with
 | none => none
 | some y => match y.kd with
  | .slice e => match T e, st.b b, lo, hi, mx with
   | some z, some (.row _ c l), some (.p (.v (.int _ i))), none, none => if 0 <= i /\ i.toNat <= l.length /\ c = z.size then some (.suf b c i.toNat) else none
   | _, _, _, _, _ => none
  | _ => none
theorem rsl_run [Glob] (hT : TabOK P T) (h : Rel w0 m0 F X N st a w m) {t : TypeId} {b : Nat} {v : V} {lo hi mx : Option V} (hv : rsl T st t b lo hi mx = some v) {q : Value} {ql qh qm : Option Value} (hq : RV w (Gd F m st.b) m (.row b) q)
 (hl : RVo w (Gd F m st.b) m lo ql) (hh : RVo w (Gd F m st.b) m hi qh) (hm : RVo w (Gd F m st.b) m mx qm) : ∃ r, (Instr.sliceAt t q ql qh qm).run P w = .ok r w /\ RV w (Gd F m st.b) m v r := by
 unfold rsl at hv
 split at hv
 ·simp at hv
 rename_i y hy
 split at hv
 ·rename_i e hkd
  have hu := (hT t y hy).slice hkd
  split at hv
  ·rename_i z e0 c l ki i hz hb
   split at hv
   ·rename_i hc
    obtain ⟨h0, h1, h2⟩ := hc
    simp only [Option.some.injEq] at hv
    subst hv
    subst h2
    have hqe : q = m.r b := hq
    rcases h.blks b _ hb with ⟨-, ⟨a0, ha0⟩, hl0⟩ | ⟨k, cap, cur, hr, hc0, hlc, hcm, hh', hs, -⟩
    ·have hz0 : i.toNat = 0 := by rw [hl0] at h1; simpa using h1
     have hbd := (bounds_run (P := P) (len := 0) (cap := 0) hl hh hm (i := i.toNat) (j := 0) (by simp [bnd, h0]) rfl true (by omega)).1 rfl (Nat.le_refl _)
     rw [hqe, ha0]
     exact ⟨_, run_slice_of hT hu hz hbd, .of0 (v := .suf _ _ _) ⟨a0, _, 0, 0, ha0, by omega, rfl, fun h => by omega⟩⟩
    ·have hbd := (bounds_run (P := P) (cap := cap) hl hh hm (i := i.toNat) (j := l.length) (by simp [bnd, h0]) rfl true (by omega)).1 rfl hlc
     rw [hqe, hr]
     refine ⟨_, run_slice_of hT hu hz hbd, .of0 (v := .suf _ _ _) ⟨some ⟨k, 0, none⟩, _, l.length, cap, hr, by omega, rfl, fun hlt => ⟨k, rfl, ?_⟩⟩⟩
     rw [if_neg (by omega)]
     simp [addr_add]
   ·simp at hv
  ·simp at hv
 ·simp at hv
end
end Go.Av
