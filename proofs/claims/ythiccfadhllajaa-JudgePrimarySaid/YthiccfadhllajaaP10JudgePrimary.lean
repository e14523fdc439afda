/- Texts that the proof needs: AvDraw. -/
import Derived.Test.YthiccfadhllajaaP9JudgePrimary
namespace Go.Av
set_option linter.unusedSimpArgs false
set_option linter.unusedVariables false
open Go
def eds (ops : Array Oper) (j : Nat) : List Nat :=
 match ops[j]? with
 | some o => (o.after.toList.filter (Region.binds .any)).map (·.on)
 | none => []
def pairOK (ops : Array Oper) (k j : Nat) : Bool :=
 (eds ops j).contains k || match ops[k]?, ops[j]? with
  | some x, some y => x.apart ops y
  | _, _ => true
def covers (ops : Array Oper) : Nat -> List Nat -> Bool
 | 0, _ => true
 | k + 1, s => s.contains k && covers ops k (eds ops k ++ s)
def headB (ops : Array Oper) (n : Nat) : Bool :=
 (List.range ops.size).all (fun i => (eds ops i).all (· < i)) && (List.range n).all (fun j => (List.range j).all (fun k => pairOK ops k j))
def tailB (ops : Array Oper) (n : Nat) : Bool :=
 decide (n = ops.size) || ((covers ops n (eds ops n)) && (List.range ops.size).all (fun j => decide (j <= n) || (eds ops j).contains (j - 1)) &&
  Region.seqB .any ops (ops.size - n) n (Array.replicate n true ++ Array.replicate (ops.size - n) false))
def drawOK (ops : Array Oper) (n : Nat) : Bool := decide (n <= ops.size) && Region.noSelect ops && headB ops n && tailB ops n
theorem lendC_b {st st' : St} (hb : st.b = st'.b) : ∀ {l : List V}, lendC st l = lendC st' l
 | [] => rfl
 | v :: r => by
  have ih := lendC_b hb (l := r)
  cases v <;> simp only [lendC, hb, ih]
def CallQ0 [Glob] (P : Program) (T : TypeId -> Option Ty) (st : St) (g : FuncId) (ts : List TypeId) (as : List V) (K : V -> Prop) : Prop :=
 (∃ us v, argsP T ts as = some us /\ ACon P g us v /\ pureV v = true /\ K v) \/ (∃ us v, argsB T st ts as = some us /\ ACon P g us v /\ flatR v = true /\ K v)
def CallQ [Glob] (P : Program) (T : TypeId -> Option Ty) (st : St) (g : FuncId) (ts : List TypeId) (as : List V) (K : V -> Prop) : Prop :=
 CallQ0 P T st g ts as K \/ (∃ S us v, S.length <= 1024 /\ argsG T S ts as = some us /\ ACon P g us v /\ K (ren (ouN S []) (fun _ => none) v)) ∨
 (∃ us v, argsA T st ts as = some us /\ ACon P g us v /\ flatR v = true /\ K v) ∨
 ∃ (b b0 : Nat) (e : TypeId) (cells : List V) (er : TypeId) (cr : Nat) (lr : List (List PV)) (us : List V) (v : V), st.b b = some (.box e cells) /\ st.b b0 = some (.row er cr lr) /\ cells.all (okX b0) = true /\ argsG T [b] ts as = some us ∧
  (∀ x, scal x = true -> Con P g us [.box e (cells.map (sub0 b0 (.v x)))] (.ret v [] [.box e (cells.map (sub0 b0 (.v x)))])) /\ nameless v = true /\ K v
def stepQ [Glob] (P : Program) (T : TypeId -> Option Ty) (N : Nat) (st : St) (o : Oper) (K : V -> Prop) : Prop :=
 match o.op with
 | .call { callee := .value f, args := as, argTypes := ts } => match calleeOf (evO st f) with
  | some (g, cs, mv) => dstOK N o.dst /\ CallQ P T st g (catT mv cs ts.toList) (cat mv (as.toList.map (evO st)) cs) K
  | none => False
 | _ => dstOK N o.dst /\ match evV T st o with
  | some v => K v
  | none => False
def awpQ [Glob] (P : Program) (T : TypeId -> Option Ty) (N : Nat) (ops : Array Oper) : List Oper -> St -> (St -> Prop) -> Prop
 | [], st, K => K st
 | o :: rest, st, K => match wantedA ops st o with
  | none => False
  | some q => (q = true -> stepQ P T N st o (fun v => awpQ P T N ops rest ⟨putS st.s o.dst v, st.b⟩ K)) /\ (q = false -> dstOK N o.dst /\ awpQ P T N ops rest ⟨putS st.s o.dst (.tup []), st.b⟩ K)
def awpTree [Glob] (P : Program) (T : TypeId -> Option Ty) (N : Nat) (ops : Array Oper) (K : St -> Prop) (Z : Value -> St -> Prop) : Nat -> Array Bool -> St -> Prop
 | 0, listed, st => Region.ready .any ops listed = [] /\ K st
 | h + 1, listed, st => Region.ready .any ops listed ≠ [] /\ ∀ i, i < ops.size -> (Region.ready .any ops listed).contains i = true -> match ops[i]? with
  | some o => awpOps P T N ops [o] st (fun st' => awpTree P T N ops K Z h (listed.setIfInBounds i true) st') Z
  | none => False
def awpDraw [Glob] (P : Program) (T : TypeId -> Option Ty) (N : Nat) (ops : Array Oper) (st : St) (K : St -> Prop) (Z : Value -> St -> Prop) : Prop :=
 (∃ (n : Nat) (bs : List Gh), drawOK ops n = true /\ awpQ P T N ops (ops.toList.take n) (frzL st bs) (fun st' => awpOps P T N ops (ops.toList.drop n) st' K Z)) ∨
 ∃ bs : List Gh, awpTree P T N ops K Z ops.size (Array.replicate ops.size false) (frzL st bs)
def YS [Glob] (P : Program) (T : TypeId -> Option Ty) (N : Nat) (ops : Array Oper) (st : St) (o : Oper) (v : V) : Prop :=
 (wantedA ops st o = some true /\ stepQ P T N st o (fun u => u = v)) \/ (wantedA ops st o = some false /\ dstOK N o.dst /\ v = .tup [])
theorem stepQ_mono [Glob] {P : Program} {T : TypeId -> Option Ty} {N : Nat} {st : St} {o : Oper} {K : V -> Prop} (h : stepQ P T N st o K) : ∃ v, stepQ P T N st o (fun u => u = v) /\ K v := by
 unfold stepQ at h ⊢
 split at h
 ·rename_i f as ts hop
  split at h
  ·obtain ⟨hd, (⟨us, v, h1, h2, h3, h4⟩ | ⟨us, v, h1, h2, h3, h4⟩) | ⟨S, us, v, h1, h2, h3, h4⟩ | ⟨us, v, h1, h2, h3, h4⟩ | ⟨b, b0, e, cells, er, cr, lr, us, v, h1, h2, h3, h4, h5, h6, h7⟩⟩ := h
   ·exact ⟨v, ⟨hd, .inl (.inl ⟨us, v, h1, h2, h3, rfl⟩)⟩, h4⟩
   ·exact ⟨v, ⟨hd, .inl (.inr ⟨us, v, h1, h2, h3, rfl⟩)⟩, h4⟩
   ·exact ⟨_, ⟨hd, .inr (.inl ⟨S, us, v, h1, h2, h3, rfl⟩)⟩, h4⟩
   ·exact ⟨v, ⟨hd, .inr (.inr (.inl ⟨us, v, h1, h2, h3, rfl⟩))⟩, h4⟩
   ·exact ⟨v, ⟨hd, .inr (.inr (.inr ⟨b, b0, e, cells, er, cr, lr, us, v, h1, h2, h3, h4, h5, h6, rfl⟩))⟩, h7⟩
  ·exact h.elim
 ·obtain ⟨hd, h⟩ := h
  split at h
  ·rename_i v hv
   exact ⟨v, ⟨hd, rfl⟩, h⟩
  ·exact h.elim
def canS (ops : Array Oper) (vs : Nat -> V) (s0 : Nat -> V) (L : Nat -> Bool) : Nat -> Nat -> V
 | 0 => s0
 | n + 1 => if L n then putS (canS ops vs s0 L n) ((ops[n]?).bind (·.dst)) (vs n) else canS ops vs s0 L n
def dstIs (ops : Array Oper) (k t : Nat) : Prop := (ops[k]?).bind (·.dst) = some t
theorem canS_char (ops : Array Oper) (vs : Nat -> V) (s0 : Nat -> V) (L : Nat -> Bool) : ∀ (n t : Nat),
 ((∀ k, k < n -> L k = true -> ¬ dstIs ops k t) /\ canS ops vs s0 L n t = s0 t) ∨
 ∃ k, k < n /\ L k = true /\ dstIs ops k t /\ (∀ j, k < j -> j < n -> L j = true -> ¬ dstIs ops j t) /\ canS ops vs s0 L n t = vs k
 | 0, t => .inl ⟨fun k hk => by omega, rfl⟩
 | n + 1, t => by
  by_cases hL : L n = true
  ·by_cases hd : dstIs ops n t
   ·refine .inr ⟨n, by omega, hL, hd, fun j h1 h2 => by omega, ?_⟩
    simp only [canS, hL, if_true]
    unfold dstIs at hd
    rw [hd]
    simp [putS]
   ·have e : canS ops vs s0 L (n + 1) t = canS ops vs s0 L n t := by
     simp only [canS, hL, if_true]
     unfold dstIs at hd
     cases hx : (ops[n]?).bind (·.dst) with
     | none => rfl
     | some d => rw [hx] at hd; simp only [putS]; rw [if_neg (fun h => hd (by rw [h]))]
    rw [e]
    rcases canS_char ops vs s0 L n t with ⟨h1, h2⟩ | ⟨k, h1, h2, h3, h4, h5⟩
    ·exact .inl ⟨fun k hk hLk => by
      rcases Nat.lt_succ_iff_lt_or_eq.1 hk with h | h
      ·exact h1 k h hLk
      ·rw [h]; exact hd, h2⟩
    ·exact .inr ⟨k, by omega, h2, h3, fun j hj1 hj2 hLj => by
      rcases Nat.lt_succ_iff_lt_or_eq.1 hj2 with h | h
      ·exact h4 j hj1 h hLj
      ·rw [h]; exact hd, h5⟩
  ·have e : canS ops vs s0 L (n + 1) t = canS ops vs s0 L n t := by simp [canS, hL]
   rw [e]
   rcases canS_char ops vs s0 L n t with ⟨h1, h2⟩ | ⟨k, h1, h2, h3, h4, h5⟩
   ·exact .inl ⟨fun k hk hLk => by
     rcases Nat.lt_succ_iff_lt_or_eq.1 hk with h | h
     ·exact h1 k h hLk
     ·rw [h] at hLk; exact absurd hLk hL, h2⟩
   ·exact .inr ⟨k, by omega, h2, h3, fun j hj1 hj2 hLj => by
     rcases Nat.lt_succ_iff_lt_or_eq.1 hj2 with h | h
     ·exact h4 j hj1 h hLj
     ·rw [h] at hLj; exact absurd hLj hL, h5⟩
theorem canS_congr [Glob] (ops : Array Oper) (vs : Nat -> V) (s0 : Nat -> V) (L L' : Nat -> Bool) (n n' t : Nat) (h : ∀ k, dstIs ops k t -> ((k < n /\ L k = true) ↔ (k < n' /\ L' k = true))) :
 canS ops vs s0 L n t = canS ops vs s0 L' n' t := by
 rcases canS_char ops vs s0 L n t with ⟨h1, h2⟩ | ⟨k, h1, h2, h3, h4, h5⟩ <;> rcases canS_char ops vs s0 L' n' t with ⟨h1', h2'⟩ | ⟨k', h1', h2', h3', h4', h5'⟩
 ·rw [h2, h2']
 ·have := (h k' h3').2 ⟨h1', h2'⟩
  exact absurd h3' (h1 k' this.1 this.2)
 ·have := (h k h3).1 ⟨h1, h2⟩
  exact absurd h3 (h1' k this.1 this.2)
 ·have e1 := (h k h3).1 ⟨h1, h2⟩
  have e2 := (h k' h3').2 ⟨h1', h2'⟩
  have : k = k' := by
   rcases Nat.lt_trichotomy k k' with hlt | heq | hgt
   ·exact absurd h3' (h4 k' hlt e2.1 e2.2)
   ·exact heq
   ·exact absurd h3 (h4' k hgt e1.1 e1.2)
  rw [h5, h5', this]
theorem awpQ_trace [Glob] {P : Program} {T : TypeId -> Option Ty} {N : Nat} {ops : Array Oper} {b0 : Nat -> Option Blk} {s0 : Nat -> V} {K : St -> Prop} : ∀ (l : List Oper) (k : Nat) (vs : Nat -> V), (∀ j, l[j]? = none \/ l[j]? = ops[k + j]?) →
 awpQ P T N ops l ⟨canS ops vs s0 (fun _ => true) k, b0⟩ K →
 ∃ vs' : Nat -> V, (∀ i, i < k -> vs' i = vs i) /\ (∀ i o, k <= i -> i < k + l.length -> ops[i]? = some o -> YS P T N ops ⟨canS ops vs' s0 (fun _ => true) i, b0⟩ o (vs' i)) /\ K ⟨canS ops vs' s0 (fun _ => true) (k + l.length), b0⟩
 | [], k, vs, _, h => ⟨vs, fun _ _ => rfl, fun i o h1 h2 => by simp at h2; omega, h⟩
 | o :: l, k, vs, hl, h => by
  have h0 : ops[k]? = some o := by
   have := hl 0
   simp at this
   exact this.symm
  have put : ∀ v, (canS ops (fun i => if i = k then v else vs i) s0 (fun _ => true) (k + 1)) = putS (canS ops vs s0 (fun _ => true) k) o.dst v := fun v => by
   have e : canS ops (fun i => if i = k then v else vs i) s0 (fun _ => true) k = canS ops vs s0 (fun _ => true) k := by
    have : ∀ n, n <= k -> canS ops (fun i => if i = k then v else vs i) s0 (fun _ => true) n = canS ops vs s0 (fun _ => true) n := by
     intro n
     induction n with
     | zero => intro _; rfl
     | succ n ih => intro hn; simp only [canS, if_true]; rw [ih (by omega), if_neg (by omega)]
    exact this k (Nat.le_refl _)
   simp only [canS, if_true, e, h0, Option.bind_some]
  simp only [awpQ] at h
  have key : ∃ v, YS P T N ops ⟨canS ops vs s0 (fun _ => true) k, b0⟩ o v /\ awpQ P T N ops l ⟨putS (canS ops vs s0 (fun _ => true) k) o.dst v, b0⟩ K := by
   split at h
   ·exact h.elim
   rename_i q hq
   cases q with
   | true =>
    obtain ⟨v, h1, h2⟩ := stepQ_mono (h.1 rfl)
    exact ⟨v, .inl ⟨hq, h1⟩, h2⟩
   | false =>
    obtain ⟨h1, h2⟩ := h.2 rfl
    exact ⟨.tup [], .inr ⟨hq, h1, rfl⟩, h2⟩
  obtain ⟨v, hy, hrest⟩ := key
  rw [<- put v] at hrest
  obtain ⟨vs', e1, e2, e3⟩ := awpQ_trace l (k + 1) (fun i => if i = k then v else vs i) (fun j => by have := hl (j + 1); simpa [Nat.add_assoc, Nat.add_comm 1 j] using this) hrest
  have hcan : ∀ n, n <= k -> canS ops vs' s0 (fun _ => true) n = canS ops vs s0 (fun _ => true) n := by
   intro n
   induction n with
   | zero => intro _; rfl
   | succ n ih => intro hn; simp only [canS, if_true]; rw [ih (by omega), e1 n (by omega), if_neg (by omega)]
  refine ⟨vs', fun i hi => by rw [e1 i (by omega), if_neg (by omega)], fun i o' h1 h2 h3 => ?_, by rw [show k + (o :: l).length = k + 1 + l.length from by simp; omega]; exact e3⟩
  by_cases hik : i = k
  ·subst hik
   rw [h0] at h3
   simp only [Option.some.injEq] at h3
   subst h3
   rw [hcan i (Nat.le_refl _), e1 i (by omega), if_pos rfl]
   exact hy
  ·exact e2 i o' (by omega) (by simp at h2; omega) h3
theorem evO_congr [Glob] {st st' : St} {x : Operand} (h : ∀ t, x = .tmp t -> st.s t = st'.s t) : evO st x = evO st' x := by
 cases x with
 | tmp t => exact h t rfl
 | _ => rfl
theorem evParts_congr [Glob] {T : TypeId -> Option Ty} {st st' : St} (ty : Nat -> TypeId) : ∀ {l : List (Nat × Operand)}, (∀ p ∈ l, evO st p.2 = evO st' p.2) -> evParts T st ty l = evParts T st' ty l
 | [], _ => rfl
 | (i, x) :: r, h => by
  simp only [evParts]
  rw [h (i, x) (by simp), evParts_congr ty (fun p hp => h p (by simp [hp]))]
theorem evPartsF_congr [Glob] {T : TypeId -> Option Ty} {st st' : St} (hb : st.b = st'.b) (ty : Nat -> TypeId) : ∀ {l : List (Nat × Operand)}, (∀ p ∈ l, evO st p.2 = evO st' p.2) -> evPartsF T st ty l = evPartsF T st' ty l
 | [], _ => rfl
 | (i, x) :: r, h => by
  simp only [evPartsF, partF]
  rw [h (i, x) (by simp), evPartsF_congr hb ty (fun p hp => h p (by simp [hp])), hb]
theorem evV_congr [Glob] {T : TypeId -> Option Ty} {st st' : St} {o : Oper} (hb : st.b = st'.b) (h : ∀ x ∈ o.op.operands, evO st x = evO st' x) : evV T st o = evV T st' o := by
 obtain ⟨dst, op, type, pos, after, guard⟩ := o
 have hld : ∀ t v, ld T st t v = ld T st' t v := fun t v => by unfold ld; rw [hb]
 have hidx : ∀ t v i, aidx T st t v i = aidx T st' t v i := fun t v i => by unfold aidx; rw [hb]
 have hlen : ∀ v, alen st v = alen st' v := fun v => by unfold alen; rw [hb]
 cases op <;> simp only [Op.operands] at h <;> simp only [evV]
 case move x => rw [h x (by simp)]
 case assign x => rw [h x (by simp)]
 case pick c x y => rw [h c (by simp), h x (by simp), h y (by simp)]
 case load t p => rw [h p (by simp), hld]
 case binOp op t x y yt => rw [h x (by simp), h y (by simp)]
 case unOp op t x => rw [h x (by simp)]
 case convert s d x =>
  have hsrc : ∀ v, srcL st 1 v = srcL st' 1 v := fun v => by unfold srcL; rw [hb]
  rw [h x (by simp)]
  unfold acvS
  simp only [hsrc]
 case makeFunc fn first captured =>
  have ha : captured.toList.map (evO st) = captured.toList.map (evO st') := List.map_congr_left fun x hx => h x (by simp; exact .inr (by simpa using hx))
  have hf : first.toList.map (evO st) = first.toList.map (evO st') := List.map_congr_left fun x hx => h x (by simp; exact .inl (by simpa using hx))
  rw [ha, hf]
 case makeInterface t x => rw [h x (by simp)]
 case nilCheck x => rw [h x (by simp)]
 case fieldAddr s x f => rw [h x (by simp)]
 case field s x f => rw [h x (by simp)]
 case indexAddr t x i => rw [h x (by simp), h i (by simp), hidx]
 case index t x i => rw [h x (by simp), h i (by simp)]
 case extract x i => rw [h x (by simp)]
 case lookup t x k ok =>
  rw [h x (by simp), h k (by simp)]
  unfold alk
  rw [hb]
 case build t parts =>
  have he : ∀ ty, evParts T st ty parts.toList = evParts T st' ty parts.toList := fun ty => evParts_congr ty fun p hp => h p.2 (by simp; exact ⟨p.1, by simpa using hp⟩)
  have he2 : ∀ ty, evPartsF T st ty parts.toList = evPartsF T st' ty parts.toList := fun ty => evPartsF_congr hb ty fun p hp => h p.2 (by simp; exact ⟨p.1, by simpa using hp⟩)
  unfold bld
  simp only [he, he2]
 case buildSlice t n parts =>
  have he : ∀ ty, evParts T st ty parts.toList = evParts T st' ty parts.toList := fun ty => evParts_congr ty fun p hp => h p.2 (by simp; exact ⟨p.1, by simpa using hp⟩)
  unfold bldS
  simp only [he]
 case slice t x lo hi mx =>
  have hx := h x (by simp)
  have hlo : lo.map (evO st) = lo.map (evO st') := by
   cases lo with
   | none => rfl
   | some y => simp [h y (by simp)]
  have hhi : hi.map (evO st) = hi.map (evO st') := by
   cases hi with
   | none => rfl
   | some y => simp [h y (by simp)]
  have hmx : mx.map (evO st) = mx.map (evO st') := by
   cases mx with
   | none => rfl
   | some y => simp [h y (by simp)]
  have hrs : ∀ b lo hi mx, rsl T st t b lo hi mx = rsl T st' t b lo hi mx := fun b lo hi mx => by unfold rsl; rw [hb]
  rw [hx, hlo, hhi, hmx]
  simp only [hrs]
 case call c =>
  obtain ⟨callee, args, argTypes⟩ := c
  have ha : args.toList.map (evO st) = args.toList.map (evO st') := List.map_congr_left fun x hx => h x (by simp [Call.operands]; exact .inr (by simpa using hx))
  cases callee <;> try rfl
  rename_i b
  simp only [ha]
  unfold abi
  simp only [hlen]
theorem stepQ_congr [Glob] {P : Program} {T : TypeId -> Option Ty} {N : Nat} {st st' : St} {o : Oper} {K : V -> Prop} (hb : st.b = st'.b) (h : ∀ x ∈ o.op.operands, evO st x = evO st' x) (hs : stepQ P T N st o K) : stepQ P T N st' o K := by
 have hv := evV_congr (T := T) hb h
 unfold stepQ at hs ⊢
 split at hs
 ·rename_i f as ts hop
  rw [hop] at h
  have hf := h f (by simp [Op.operands, Call.operands])
  have ha : as.toList.map (evO st) = as.toList.map (evO st') := List.map_congr_left fun x hx => h x (by simp [Op.operands, Call.operands]; exact .inr (by simpa using hx))
  have hB : ∀ (ts : List TypeId) (vs : List V), argsB T st ts vs = argsB T st' ts vs := by
   intro ts vs
   induction vs generalizing ts with
   | nil => rfl
   | cons v vs ih =>
    have e : argB T st (ts.headD 0) v = argB T st' (ts.headD 0) v := by
     unfold argB
     rw [hb]
     cases v <;> simp only [lendL_b hb]
    simp only [argsB, ih, e]
  have hA : ∀ (ts : List TypeId) (vs : List V), argsA T st ts vs = argsA T st' ts vs := by
   intro ts vs
   induction vs generalizing ts with
   | nil => rfl
   | cons v vs ih =>
    have e : argA T st (ts.headD 0) v = argA T st' (ts.headD 0) v := by
     unfold argA argB
     rw [hb]
     cases v <;> simp only [lendL_b hb, lendC_b hb]
    simp only [argsA, ih, e]
  unfold CallQ CallQ0 at hs ⊢
  simp only [<- hf, <- ha, <- hB, <- hA, <- hb]; exact hs
 ·rw [<- hv]; exact hs
theorem looks_operand {ops : Array Oper} {o : Oper} {x : Operand} (hx : x ∈ o.op.operands) {t : Nat} (ht : x = .tmp t) : t ∈ o.looksAt ops := by
 subst ht
 unfold Oper.looksAt
 refine List.mem_append_left _ (List.mem_filterMap.2 ⟨.tmp t, by simpa using hx, rfl⟩)
theorem looks_guard {ops : Array Oper} {o : Oper} {j : Nat} {want : Bool} (hg : o.guard = some (j, want)) {d : Nat} (hd : (ops[j]?).bind (·.dst) = some d) : d ∈ o.looksAt ops := by
 unfold Oper.looksAt
 refine List.mem_append_right _ ?_
 rw [hg]
 simp [hd]
theorem YS_congr [Glob] {P : Program} {T : TypeId -> Option Ty} {N : Nat} {ops : Array Oper} {st st' : St} {o : Oper} {v : V} (hb : st.b = st'.b) (h : ∀ t ∈ o.looksAt ops, st.s t = st'.s t) (hy : YS P T N ops st o v) : YS P T N ops st' o v := by
 have hw : wantedA ops st o = wantedA ops st' o := by
  unfold wantedA
  split
  ·rfl
  ·rename_i j want hg
   split
   ·rfl
   ·rename_i d hd
    rw [h d (looks_guard hg hd)]
 have ho : ∀ x ∈ o.op.operands, evO st x = evO st' x := fun x hx => evO_congr fun t ht => h t (looks_operand hx ht)
 rcases hy with ⟨h1, h2⟩ | ⟨h1, h2⟩
 ·exact .inl ⟨by rw [<- hw]; exact h1, stepQ_congr hb ho h2⟩
 ·exact .inr ⟨by rw [<- hw]; exact h1, h2⟩
section
variable {P : Program} {T : TypeId -> Option Ty} {w0 : World} {m0 : Nm} {F X : Nat -> Prop} {N : Nat} {st : St} {a : Act} {w : World} {m : Nm}
theorem call_run_opq [Glob] (h : Rel w0 m0 F X N st a w m) {o : Oper} {f : Operand} {as : Array Operand} {ts : Array TypeId} (ho : o.op = .call { callee := .value f, args := as, argTypes := ts }) {g : FuncId} {cs : List V} {mv : Bool} (hf : calleeOf (evO st f) = some (g, cs, mv)) (hd : dstOK N o.dst)
 {S : List Nat} {us : List V} {v : V} (_hSl : S.length <= 1024) (hus : argsG T S (catT mv cs ts.toList) (cat mv (as.toList.map (evO st)) cs) = some us) (hc : ACon P g us v) {K' : Act -> World -> Prop} {Q : Exit -> Act -> World -> Prop}
 (hK : ∀ x w', Rel w0 m0 F X N ⟨putS st.s o.dst (ren (ouN S []) (fun _ => none) v), st.b⟩ (a.put o.dst x) w' m -> K' (a.put o.dst x) w') : o.wp P a w K' Q := by
 obtain ⟨cx, hfe, hcl, hcx⟩ := callee_run h hf
 have hargs := hargs_of h as (mv := mv) hcl hcx
 have hlen : (cat mv (as.toList.map a.eval) cx).length = (cat mv (as.toList.map (evO st)) cs).length := by rw [cat_length, cat_length, hcl]; simp
 obtain ⟨h1, h2⟩ := argsG_run (w := w) (m := m) (S := S) (G := Gd F m st.b) (G' := Gd (Gd F m st.b) (inM m S) (nmF [] [])) (fun k hk => Gd_nil hk) hus hlen hargs
 have hcall := hc (Gd F m st.b) w (inM m S) _ (Hp.none h.gd_lt nmF_nil h.glob) (by rw [hlen, h1]) h2
 refine wp_callC ho hfe hcall fun e w' ⟨hkp, hout⟩ => ?_
 obtain ⟨x, m2, rfl, hp2, hown, hnam, hvx⟩ := hout
 have hk' : Keeps (fun _ => False) w w' := hkp.mono fun k ⟨n, h⟩ => by simp [owns, nmF_nil] at h
 have hs : Sends m2 m (ouN S []) (fun _ => none) := by
  refine ⟨fun n b hn => ?_, fun b b' hb => by simp at hb⟩
  unfold ouN at hn
  split at hn
  ·simp at hn
  ·rename_i h3
   split at hn
   ·rename_i h4
    rw [hnam n (by omega) h4]
    simp only [inM]
    rw [List.getD_eq_getElem?_getD, hn]; rfl
   ·simp at hn
 exact .inl ⟨x, rfl, hK x w' ((h.world hk').put o.dst _ x hd.lt (hvx.ren ⟨Nat.le_refl _, fun _ _ _ => rfl, fun k _ hg => .inl hg⟩ hs))⟩
theorem YS_run [Glob] (hT : TabOK P T) (h : Rel w0 m0 F X N st a w m) {ops : Array Oper} {i : Nat} {o : Oper} (hi : ops[i]? = some o) {v : V} (hy : YS P T N ops st o v) {K : Act -> World -> Prop} {Q : Exit -> Act -> World -> Prop}
 (hK : ∀ x w', Rel w0 m0 F X N ⟨putS st.s o.dst v, st.b⟩ (a.put o.dst x) w' m -> K (a.put o.dst x) w') : wpOp P ops Q i K a w := by
 unfold wpOp
 simp only [hi]
 rcases hy with ⟨h1, h2⟩ | ⟨h1, h2, rfl⟩
 ·rw [wantedA_run h h1, if_pos rfl]
  left
  unfold stepQ at h2
  split at h2
  ·rename_i f as ts hop
   split at h2
   ·rename_i g cs mv hf
    obtain ⟨hd, (⟨us, v', hus, hc, hpv, rfl⟩ | ⟨us, v', hus, hc, hpv, rfl⟩) | ⟨S, us, v', hSl, hus, hc, rfl⟩ | ⟨us, v', hus, hc, hpv, rfl⟩ | ⟨b, b0, e, cells, er, cr, lr, us, v', hb, hr, hok, hus, hc, hn, rfl⟩⟩ := h2
    ·exact call_run_pure h hop hf hd (.inl ⟨hus, hpv⟩) hc hK
    ·exact call_run_pure h hop hf hd (.inr ⟨hus, hpv⟩) hc hK
    ·exact call_run_opq h hop hf hd hSl hus hc hK
    ·exact call_run_lentA h hop hf hd hus hpv hc hK
    ·exact call_run_box h hop hf hd hb hr hok hus hc hn hK
   ·exact h2.elim
  ·obtain ⟨hd, h2⟩ := h2
   split at h2
   ·rename_i u hu
    subst h2
    obtain ⟨x, w', h3, h4, h5⟩ := evV_run hT h hu
    exact run_of_value h3 (hK x w' ((h.world h4).put o.dst u x hd.lt h5))
   ·exact h2.elim
 ·rw [wantedA_run h h1, if_neg (by simp)]
  exact hK undef w (h.put o.dst (.tup []) undef h2.lt ⟨#[], rfl, rfl, fun i v hi => by simp at hi⟩)
theorem mem_eds {ops : Array Oper} {j : Nat} {o : Oper} (hj : ops[j]? = some o) {k : Nat} : k ∈ eds ops j ↔ ∃ e ∈ o.after, Region.binds .any e = true /\ e.on = k := by
 unfold eds
 rw [hj]
 simp only [List.mem_map, List.mem_filter]
 constructor
 ·rintro ⟨e, ⟨h1, h2⟩, h3⟩; exact ⟨e, by simpa using h1, h2, h3⟩
 ·rintro ⟨e, h1, h2, h3⟩; exact ⟨e, ⟨by simpa using h1, h2⟩, h3⟩
theorem covers_all {ops : Array Oper} {L : Nat -> Bool} (hcl : ∀ j, L j = true -> ∀ k ∈ eds ops j, L k = true) : ∀ (n : Nat) (s : List Nat), covers ops n s = true -> (∀ k ∈ s, L k = true) -> ∀ k, k < n -> L k = true
 | 0, _, _, _, k, hk => by omega
 | n + 1, s, h, hs, k, hk => by
  simp only [covers, Bool.and_eq_true] at h
  have hn : L n = true := hs n (by simpa using h.1)
  rcases Nat.lt_succ_iff_lt_or_eq.1 hk with h1 | h1
  ·exact covers_all hcl n _ h.2 (fun k hk => by
    rcases List.mem_append.1 hk with h2 | h2
    ·exact hcl n hn k h2
    ·exact hs k h2) k h1
  ·rw [h1]; exact hn
def left (L : Nat -> Bool) : Nat -> Nat
 | 0 => 0
 | n + 1 => left L n + if L n then 0 else 1
theorem left_zero {L : Nat -> Bool} : ∀ {n : Nat}, left L n = 0 -> ∀ k, k < n -> L k = true
 | 0, _, k, hk => by omega
 | n + 1, h, k, hk => by
  simp only [left] at h
  rcases Nat.lt_succ_iff_lt_or_eq.1 hk with h1 | h1
  ·exact left_zero (by omega) k h1
  ·subst h1
   by_cases hL : L k = true
   ·exact hL
   ·rw [if_neg hL] at h; omega
theorem left_all {L : Nat -> Bool} : ∀ {n : Nat}, (∀ k, k < n -> L k = true) -> left L n = 0
 | 0, _ => rfl
 | n + 1, h => by simp only [left]; rw [left_all (fun k hk => h k (by omega)), h n (by omega)]; rfl
theorem left_set {L : Nat -> Bool} {i : Nat} (hi : L i = false) : ∀ {n : Nat}, left (fun k => if k = i then true else L k) n + (if i < n then 1 else 0) = left L n
 | 0 => rfl
 | n + 1 => by
  have ih := left_set hi (n := n)
  simp only [left]
  generalize left (fun k => if k = i then true else L k) n = x at ih ⊢
  by_cases h : n = i
  ·subst h
   simp [hi] at ih ⊢
   omega
  ·by_cases h2 : i < n
   ·have h3 : i < n + 1 := by omega
    simp only [h, h2, h3, if_true, if_false] at ih ⊢
    omega
   ·have h3 : ¬ i < n + 1 := by omega
    simp only [h, h2, h3, if_false] at ih ⊢
    omega
def Lof (listed : Array Bool) (i : Nat) : Bool := listed.getD i true
theorem Lof_set {listed : Array Bool} {i : Nat} (h : Lof listed i = false) (k : Nat) : Lof (listed.setIfInBounds i true) k = if k = i then true else Lof listed k := by
 unfold Lof at *
 rw [Array.getD_eq_getD_getElem?] at *
 by_cases hk : k = i
 ·subst hk
  rw [if_pos rfl]
  by_cases hs : k < listed.size
  ·rw [Array.getElem?_setIfInBounds_self_of_lt hs]; rfl
  ·rw [Array.getElem?_eq_none (by simpa using hs)]; rfl
 ·rw [if_neg hk, Array.getElem?_setIfInBounds_ne (Ne.symm hk), <- Array.getD_eq_getD_getElem?]
theorem draw_head [Glob] (hT : TabOK P T) {ops : Array Oper} {n : Nat} {vs : Nat -> V} {s0 : Nat -> V} {b0 : Nat -> Option Blk} (hn : n <= ops.size) (hH : headB ops n = true) (hTl : tailB ops n = true)
 (hys : ∀ i o, i < n -> ops[i]? = some o -> YS P T N ops ⟨canS ops vs s0 (fun _ => true) i, b0⟩ o (vs i)) {Q : Exit -> Act -> World -> Prop}
 (hfin : ∀ a w, Rel w0 m0 F X N ⟨canS ops vs s0 (fun _ => true) n, b0⟩ a w m -> wpList P ops Q (ops.toList.drop n) a w) :
 ∀ (h : Nat) (listed : Array Bool) (a : Act) (w : World), left (Lof listed) n = h -> listed.size = ops.size -> (∀ j, n <= j -> j < ops.size -> Lof listed j = false) →
  (∀ j, j < ops.size -> Lof listed j = true -> ∀ k ∈ eds ops j, Lof listed k = true) -> Rel w0 m0 F X N ⟨canS ops vs s0 (Lof listed) n, b0⟩ a w m →
  wpAny P .any ops Q (h + (ops.size - n)) listed a w := by
 simp only [headB, Bool.and_eq_true, List.all_eq_true, List.mem_range] at hH
 obtain ⟨hdown, hpair⟩ := hH
 have hdown' : ∀ i, i < ops.size -> ∀ k ∈ eds ops i, k < i := fun i hi k hk => by
  have := hdown i hi k hk
  simpa using this
 intro h
 induction h with
 | zero =>
  intro listed a w hl hsz htail hcl hrel
  have hall := left_zero hl
  have hst : canS ops vs s0 (Lof listed) n = canS ops vs s0 (fun _ => true) n := funext fun t => canS_congr _ _ _ _ _ _ _ _ fun k _ => by
   constructor
   ·rintro ⟨h1, -⟩; exact ⟨h1, rfl⟩
   ·rintro ⟨h1, -⟩; exact ⟨h1, hall k h1⟩
  rw [hst] at hrel
  have hq := hfin a w hrel
  have hlist : listed = Array.replicate n true ++ Array.replicate (ops.size - n) false := by
   apply Array.ext
   ·simp; omega
   ·intro i h1 h2
    have hL : Lof listed i = listed[i] := by unfold Lof; rw [Array.getD_eq_getD_getElem?, Array.getElem?_eq_getElem h1]; rfl
    rw [<- hL]
    by_cases hin : i < n
    ·rw [hall i hin, Array.getElem_append_left (by simpa using hin)]; simp
    ·rw [htail i (by omega) (by omega), Array.getElem_append_right (by simpa using hin)]; simp
  have hlen : (ops.toList.drop n).length = ops.size - n := by simp
  have hseq : Region.seqB .any ops (ops.toList.drop n).length n listed = true := by
   rw [hlen]
   simp only [tailB, Bool.or_eq_true, decide_eq_true_eq, Bool.and_eq_true] at hTl
   rcases hTl with h1 | h1
   ·rw [show ops.size - n = 0 from by omega]
    simp only [Region.seqB, List.isEmpty_iff]
    cases hr : Region.ready .any ops listed with
    | nil => rfl
    | cons x xs =>
     have hx : x ∈ Region.ready .any ops listed := by rw [hr]; simp
     obtain ⟨h2, o, h3, -⟩ := mem_ready.1 hx
     have hxs := (Array.getElem?_eq_some_iff.1 h3).1
     have := hall x (by omega)
     unfold Lof at this
     rw [this] at h2
     cases h2
   ·rw [hlist]; exact h1.2
  have := wpAny_of_seq (md := .any) (Q' := Q) (ops.toList.drop n) n listed a w (fun j => by simp [List.getElem?_drop]) hseq hq
  rw [hlen] at this
  simpa using this
 | succ h ih =>
  intro listed a w hl hsz htail hcl hrel
  have hready_lt : ∀ i ∈ Region.ready .any ops listed, i < n := fun i hi => by
   obtain ⟨h2, o, h3, h4⟩ := mem_ready.1 hi
   have his := (Array.getElem?_eq_some_iff.1 h3).1
   rcases Nat.lt_or_ge i n with h5 | h5
   ·exact h5
   ·exfalso
    have hedl : ∀ k ∈ eds ops i, Lof listed k = true := fun k hk => by
     obtain ⟨e, he, hb, rfl⟩ := (mem_eds h3).1 hk
     have hlt := hdown' i his e.on hk
     have := h4 e he hb
     unfold Lof
     rw [Array.getD_eq_getD_getElem?] at this ⊢
     rw [Array.getElem?_eq_getElem (by omega)] at this ⊢
     exact this
    simp only [tailB, Bool.or_eq_true, decide_eq_true_eq, Bool.and_eq_true, List.all_eq_true, List.mem_range] at hTl
    rcases hTl with h6 | ⟨⟨h6, h7⟩, -⟩
    ·omega
    ·by_cases hin : i = n
     ·subst hin
      have hall := covers_all (L := fun k => decide (k < ops.size) && Lof listed k) (fun j hj k hk => by
       simp only [Bool.and_eq_true, decide_eq_true_eq] at hj ⊢
       exact ⟨by have := hdown' j hj.1 k hk; omega, hcl j hj.1 hj.2 k hk⟩) i _ h6 (fun k hk => by
       simp only [Bool.and_eq_true, decide_eq_true_eq]
       exact ⟨by have := hdown' i his k hk; omega, hedl k hk⟩)
      have := left_all (L := Lof listed) (n := i) (fun k hk => by have := hall k hk; simp only [Bool.and_eq_true] at this; exact this.2)
      omega
     ·rcases h7 i his with h8 | h8
      ·omega
      ·have h9 := hedl (i - 1) (by simpa using h8)
       rw [htail (i - 1) (by omega) (by omega)] at h9
       cases h9
  have hsome : Region.ready .any ops listed ≠ [] := fun hnil => by
   have hex : ∃ k, k < n /\ Lof listed k = false := by
    apply Classical.byContradiction
    intro hno
    have := left_all (L := Lof listed) (n := n) (fun k hk => by
     cases hL : Lof listed k with
     | true => rfl
     | false => exact absurd ⟨k, hk, hL⟩ hno)
    omega
   obtain ⟨k0, hk0⟩ := hex
   have hmin : ∃ k, (k < n /\ Lof listed k = false) /\ ∀ j, (j < n /\ Lof listed j = false) -> k <= j := by
    have : ∀ k, (k < n /\ Lof listed k = false) -> ∃ k, (k < n /\ Lof listed k = false) /\ ∀ j, (j < n /\ Lof listed j = false) -> k <= j := by
     intro k
     induction k using Nat.strongRecOn with
     | _ k ih =>
      intro hk
      by_cases h : ∃ j, j < k /\ (j < n /\ Lof listed j = false)
      ·obtain ⟨j, hj, hp⟩ := h
       exact ih j hj hp
      ·exact ⟨k, hk, fun j hj => by
        rcases Nat.lt_or_ge j k with h1 | h1
        ·exact absurd ⟨j, h1, hj⟩ h
        ·exact h1⟩
    exact this k0 hk0
   obtain ⟨k, ⟨hk1, hk2⟩, hk3⟩ := hmin
   have hks : k < ops.size := by omega
   have : k ∈ Region.ready .any ops listed := mem_ready.2 ⟨hk2, ops[k], Array.getElem?_eq_getElem hks, fun e he hb => by
    have hmem : e.on ∈ eds ops k := (mem_eds (Array.getElem?_eq_getElem hks)).2 ⟨e, he, hb, rfl⟩
    have hlt := hdown' k hks e.on hmem
    have hLe : Lof listed e.on = true := by
     cases hL : Lof listed e.on with
     | true => rfl
     | false => have := hk3 e.on ⟨by omega, hL⟩; omega
    unfold Lof at hLe
    rw [Array.getD_eq_getD_getElem?] at hLe ⊢
    rw [Array.getElem?_eq_getElem (by omega)] at hLe ⊢
    exact hLe⟩
   rw [hnil] at this
   cases this
  rw [show h + 1 + (ops.size - n) = (h + (ops.size - n)) + 1 from by omega]
  refine ⟨fun h0 => absurd h0 hsome, fun i hi => ?_⟩
  have hin := hready_lt i hi
  obtain ⟨h2, o, h3, h4⟩ := mem_ready.1 hi
  have his := (Array.getElem?_eq_some_iff.1 h3).1
  have hedl : ∀ k ∈ eds ops i, Lof listed k = true := fun k hk => by
   obtain ⟨e, he, hb, rfl⟩ := (mem_eds h3).1 hk
   have hlt := hdown' i his e.on hk
   have := h4 e he hb
   unfold Lof
   rw [Array.getD_eq_getD_getElem?] at this ⊢
   rw [Array.getElem?_eq_getElem (by omega)] at this ⊢
   exact this
  have hLi : Lof listed i = false := h2
  have early : ∀ k, k < i -> ∀ ok, ops[k]? = some ok -> ok.apart ops o = false -> Lof listed k = true := fun k hk ok hok hap => by
   have := hpair i hin k hk
   simp only [pairOK, hok, h3, Bool.or_eq_true, hap, Bool.false_eq_true, or_false] at this
   exact hedl k (by simpa using this)
  have late : ∀ k, i < k -> k < n -> ∀ ok, ops[k]? = some ok -> o.apart ops ok = false -> Lof listed k = false := fun k hk hkn ok hok hap => by
   have := hpair k hkn i hk
   simp only [pairOK, hok, h3, Bool.or_eq_true, hap, Bool.false_eq_true, or_false] at this
   cases hL : Lof listed k with
   | false => rfl
   | true =>
    have h5 := hcl k (by omega) hL i (by simpa using this)
    rw [hLi] at h5
    cases h5
  have dst_of : ∀ k t, dstIs ops k t -> ∃ ok, ops[k]? = some ok /\ ok.dst = some t := fun k t hd => by
   unfold dstIs at hd
   cases hok : ops[k]? with
   | none => rw [hok] at hd; simp at hd
   | some ok => rw [hok] at hd; exact ⟨ok, rfl, hd⟩
  have hlook : ∀ t ∈ o.looksAt ops, canS ops vs s0 (fun _ => true) i t = canS ops vs s0 (Lof listed) n t := fun t ht => canS_congr _ _ _ _ _ _ _ _ fun k hd => by
   obtain ⟨ok, hok, hdt⟩ := dst_of k t hd
   constructor
   ·rintro ⟨hki, -⟩
    refine ⟨by omega, early k hki ok hok ?_⟩
    simp only [Oper.apart, hdt]
    have : (o.looksAt ops).contains t = true := by simpa using ht
    rw [this]; rfl
   ·rintro ⟨hkn, hL⟩
    refine ⟨?_, rfl⟩
    rcases Nat.lt_trichotomy k i with h5 | h5 | h5
    ·exact h5
    ·subst h5; rw [hLi] at hL; cases hL
    ·have := late k h5 hkn ok hok (by
      have hc : (o.looksAt ops).contains t = true := by simpa using ht
      simp only [Oper.apart, hdt, hc, Bool.not_true, Bool.and_false])
     rw [this] at hL; cases hL
  have hy := YS_congr (P := P) (T := T) (N := N) (st := ⟨canS ops vs s0 (fun _ => true) i, b0⟩) (st' := ⟨canS ops vs s0 (Lof listed) n, b0⟩) rfl hlook (hys i o hin h3)
  have hcan : canS ops vs s0 (Lof (listed.setIfInBounds i true)) n = putS (canS ops vs s0 (Lof listed) n) o.dst (vs i) := by
   funext t
   by_cases hdt : o.dst = some t
   ·have hdi : dstIs ops i t := by unfold dstIs; rw [h3]; exact hdt
    rcases canS_char ops vs s0 (Lof (listed.setIfInBounds i true)) n t with ⟨h5, -⟩ | ⟨k, h5, h6, h7, h8, h9⟩
    ·exact absurd hdi (h5 i hin (by rw [Lof_set hLi, if_pos rfl]))
    ·have hki : k = i := by
      rcases Nat.lt_trichotomy k i with h10 | h10 | h10
      ·exact absurd hdi (h8 i h10 hin (by rw [Lof_set hLi, if_pos rfl]))
      ·exact h10
      ·obtain ⟨ok, hok, hokt⟩ := dst_of k t h7
       rw [Lof_set hLi, if_neg (by omega)] at h6
       have := late k h10 h5 ok hok (by
        simp only [Oper.apart, hdt, hokt]
        simp)
       rw [this] at h6; cases h6
     rw [h9, hki, hdt]
     simp [putS]
   ·have e : putS (canS ops vs s0 (Lof listed) n) o.dst (vs i) t = canS ops vs s0 (Lof listed) n t := by
     cases hd : o.dst with
     | none => rfl
     | some d => simp only [putS]; rw [if_neg (fun h => hdt (by rw [hd, h]))]
    rw [e]
    refine canS_congr _ _ _ _ _ _ _ _ fun k hd => ?_
    have hki : k ≠ i := fun h => by
     subst h
     unfold dstIs at hd
     rw [h3] at hd
     exact hdt hd
    rw [Lof_set hLi, if_neg hki]
  refine YS_run hT hrel h3 hy fun x w' hr => ih _ _ w' ?_ (by simpa using hsz) (fun j h5 h6 => ?_) (fun j h5 h6 k hk => ?_) (by rw [hcan]; exact hr)
  ·have hs := left_set (L := Lof listed) hLi (n := n)
   rw [if_pos hin] at hs
   have e : Lof (listed.setIfInBounds i true) = fun k => if k = i then true else Lof listed k := funext fun k => Lof_set hLi k
   rw [e]
   omega
  ·rw [Lof_set hLi, if_neg (by omega)]; exact htail j h5 h6
  ·rw [Lof_set hLi] at h6 ⊢
   by_cases hki : k = i
   ·rw [if_pos hki]
   ·rw [if_neg hki]
    by_cases hji : j = i
    ·subst hji; exact hedl k hk
    ·rw [if_neg hji] at h6
     exact hcl j h5 h6 k hk
theorem wp_upon {o : Oper} {a : Act} {w : World} {K : Act -> World -> Prop} {Q Q' : Exit -> Act -> World -> Prop} (h : ∀ e a w, e ≠ .normal -> Q' e a w -> Q e a w)
 (hh : o.wp P a w K Q') : o.wp P a w K Q := by
 unfold Oper.wp at *
 generalize (execOp a.eval o).run P w = r at *
 cases r with
 | ok n w' =>
  cases n <;> simp only [Oper.upon] at hh ⊢ <;>
   first
    | exact hh
    | exact Calls.mono hh (fun e w'' he => by cases e <;> first | exact he | exact h _ _ _ (by simp) he | (obtain ⟨a2, w2, h3⟩ := he; exact ⟨a2, w2, h _ _ _ (by simp) h3⟩))
    | exact h _ _ _ (by simp) hh
 | halt x w' => cases x <;> simp only [Oper.upon] at hh ⊢ <;> first | exact hh | exact h _ _ _ (by simp) hh | (obtain ⟨a2, w2, h3⟩ := hh; exact ⟨a2, w2, h _ _ _ (by simp) h3⟩)
def postAt (R : Act -> World -> Prop) (Q : Exit -> Act -> World -> Prop) : Exit -> Act -> World -> Prop
 | .normal => R
 | e => Q e
theorem postAt_other {R : Act -> World -> Prop} {Q : Exit -> Act -> World -> Prop} (e : Exit) (a : Act) (w : World) (he : e ≠ .normal) (h : postAt R Q e a w) : Q e a w := by
 cases e <;> first | exact h | exact absurd rfl he
theorem awpTree_run [Glob] (hT : TabOK P T) {ops : Array Oper} {K : St -> Prop} {Z : Value -> St -> Prop} {Q : Exit -> Act -> World -> Prop}
 (hK : ∀ st' a' w' m', K st' -> Rel w0 m0 F X N st' a' w' m' -> Q .normal a' w') (hZ : ∀ y st' a' w' m', Z y st' -> Rel w0 m0 F X N st' a' w' m' -> Q (.panic [{ v := y, recovered := false }]) a' w') :
 ∀ (h : Nat) (listed : Array Bool) (st : St) (a : Act) (w : World) (m : Nm), Rel w0 m0 F X N st a w m -> awpTree P T N ops K Z h listed st -> wpAny P .any ops Q h listed a w
 | 0, listed, st, a, w, m, hr, ht => ⟨ht.1, hK st a w m ht.2 hr⟩
 | h + 1, listed, st, a, w, m, hr, ht => by
  refine ⟨fun h0 => absurd h0 ht.1, fun i hi => ?_⟩
  obtain ⟨-, o, ho, -⟩ := mem_ready.1 hi
  have his := (Array.getElem?_eq_some_iff.1 ho).1
  have h1 := ht.2 i his (by simpa using hi)
  rw [ho] at h1
  have h2 := awpOps_run hT ops (Q := postAt (wpAny P .any ops Q h (listed.setIfInBounds i true)) Q) (fun st' a' w' m' hk hr' => awpTree_run hT hK hZ h _ st' a' w' m' hr' hk) hZ [o] st a w m hr h1
  simp only [wpList] at h2
  unfold wpOp
  rw [ho]
  simp only
  split
  ·rename_i hw
   rw [if_pos hw] at h2
   rcases h2 with h2 | ⟨h2, a2, w2, h3⟩
   ·exact .inl (wp_upon (fun e a w he hx => postAt_other e a w he hx) h2)
   ·exact .inr ⟨h2, a2, w2, postAt_other _ _ _ (by simp) h3⟩
  ·rename_i hw
   rw [if_neg hw] at h2
   exact h2
theorem awpDraw_any [Glob] (hT : TabOK P T) (h : Rel w0 m0 F X N st a w m) {ops : Array Oper} {K : St -> Prop} {Z : Value -> St -> Prop} (hv : awpDraw P T N ops st K Z)
 {Q : Exit -> Act -> World -> Prop} (hK : ∀ st' a' w' m', K st' -> Rel w0 m0 F X N st' a' w' m' -> Q .normal a' w') (hZ : ∀ y st' a' w' m', Z y st' -> Rel w0 m0 F X N st' a' w' m' -> Q (.panic [{ v := y, recovered := false }]) a' w') : wpAny P .any ops Q ops.size (Array.replicate ops.size false) a { w with drawn := w.drawn + 1 } := by
 rcases hv with ⟨n, bs, hok, hq⟩ | ⟨bs, hq⟩
 rotate_left
 ·obtain ⟨m, h⟩ := h.frzL bs
  generalize frzL st bs = st at h hq
  have hwd : Rel w0 m0 F X N st a { w with drawn := w.drawn + 1 } m := h.world ⟨rfl, rfl, rfl, Nat.le_refl _, fun _ _ _ => rfl⟩
  exact awpTree_run hT hK hZ _ _ st a _ m hwd hq
 obtain ⟨m, h⟩ := h.frzL bs
 generalize frzL st bs = st at h hq
 simp only [drawOK, Bool.and_eq_true, decide_eq_true_eq] at hok
 obtain ⟨⟨⟨hn, -⟩, hH⟩, hTl⟩ := hok
 obtain ⟨vs, -, hys, hk⟩ := awpQ_trace (s0 := st.s) (b0 := st.b) (ops.toList.take n) 0 (fun _ => .junk) (fun j => by
  rw [List.getElem?_take]
  split
  ·right; simp
  ·left; rfl) hq
 have hlen : (ops.toList.take n).length = n := by simp; omega
 rw [hlen, Nat.zero_add] at hk
 have hwd : Rel w0 m0 F X N st a { w with drawn := w.drawn + 1 } m := h.world ⟨rfl, rfl, rfl, Nat.le_refl _, fun _ _ _ => rfl⟩
 have hL0 : ∀ k, k < ops.size -> Lof (Array.replicate ops.size false) k = false := fun k hk' => by
  unfold Lof
  rw [Array.getD_eq_getD_getElem?, Array.getElem?_replicate, if_pos hk']; rfl
 have hl0 : left (Lof (Array.replicate ops.size false)) n = n := by
  have : ∀ k, k <= n -> left (Lof (Array.replicate ops.size false)) k = k := by
   intro k
   induction k with
   | zero => intro _; rfl
   | succ k ih => intro hk'; simp only [left]; rw [ih (by omega), hL0 k (by omega)]; rfl
  exact this n (Nat.le_refl _)
 have hcan0 : canS ops vs st.s (Lof (Array.replicate ops.size false)) n = st.s := by
  funext t
  rcases canS_char ops vs st.s (Lof (Array.replicate ops.size false)) n t with ⟨-, h5⟩ | ⟨k, h5, h6, -⟩
  ·exact h5
  ·rw [hL0 k (by omega)] at h6; cases h6
 have := draw_head hT (P := P) (N := N) (w0 := w0) (m0 := m0) (F := F) (X := X) (m := m) (vs := vs) (s0 := st.s) (b0 := st.b) hn hH hTl (fun i o hi ho => hys i o (Nat.zero_le _) (by rw [hlen]; omega) ho) (Q := Q)
  (fun a' w' hr => awpOps_run hT ops hK hZ _ _ a' w' m hr hk) n (Array.replicate ops.size false) a { w with drawn := w.drawn + 1 } hl0 (by simp) (fun j _ hj => hL0 j hj) (fun j hj hL => by rw [hL0 j hj] at hL; cases hL) (by rw [hcan0]; exact hwd)
 rw [show n + (ops.size - n) = ops.size from by omega] at this
 exact this
theorem awpDraw_run [Glob] (hT : TabOK P T) (hm : P.follows .mixedOrders = true) (h : Rel w0 m0 F X N st a w m) {id : Nat} {ops : Array Oper} {K : St -> Prop} {Z : Value -> St -> Prop} (hv : awpDraw P T N ops st K Z)
 {Q : Exit -> Act -> World -> Prop} (hK : ∀ st' a' w' m', K st' -> Rel w0 m0 F X N st' a' w' m' -> Q .normal a' w') (hZ : ∀ y st' a' w' m', Z y st' -> Rel w0 m0 F X N st' a' w' m' -> Q (.panic [{ v := y, recovered := false }]) a' w') : (Code.region id ops true).wp P Q a w :=
 wp_region_any hm (awpDraw_any hT h hv hK hZ)
end
end Go.Av
