/- Texts that the proof needs: AvInd. -/
import Derived.Test.YtjekjpgccnhobaaDoorP9ConfigBack
namespace Go.Av
open Go
set_option linter.unusedSimpArgs false
set_option linter.unusedVariables false
inductive Ef where
  | put (d : Option Nat) (v : V)
  | crt (nm d : Nat) (blk : Blk) (v : V)
  | set (b : Nat) (blk : Blk)
def Ef.app : Ef -> St -> St
  | .put d v,st=>⟨yY st.s d v,st.b⟩
  | .crt nm d blk v,st=>Av.crt st nm d blk v
  | .set b blk,st=>⟨st.s,fun b'=>if b' = b then some blk else st.b b'⟩
def nmsC : Cap -> List Nat
  | .box b=>[b]
  | .val _=>[]
  | .rp _ _=>[]
def nmsF : Fc -> List Nat
  | .row b=>[b]
  | .p _=>[]
  | .nil _=>[]
def nms0 : V -> List Nat
  | .ptr b _=>[b]
  | .eptr b _ _ _=>[b]
  | .row b=>[b]
  | .clo _ cs=>cs.flatMap nmsC
  | .ag l=>l.flatMap nmsF
  | .suf b _ _=>[b]
  | _=>[]
def nms : V -> List Nat
  | .tup l=>l.flatMap nms0
  | v=>nms0 v
def nmsB : Blk -> List Nat
  | .box _ cells=>cells.flatMap nms0
  | .row _ _ _=>[]
def Ef.dst : Ef -> Option Nat
  | .put d _=>d
  | .crt _ d _ _=>some d
  | .set _ _=>none
def Ef.nm : Ef -> Option Nat
  | .crt nm _ _ _=>some nm
  | .set b _=>some b
  | .put _ _=>none
def Ef.cr : Ef -> Option Nat
  | .crt nm _ _ _=>some nm
  | _=>none
def Ef.names : Ef -> List Nat
  | .put _ v=>nms v
  | .crt _ _ blk v=>nms v ++ nmsB blk
  | .set _ blk=>nmsB blk
def offO (o : Option Nat) (l : List Nat) : Bool := match o with
  | some x=>!l.contains x
  | none=>true
def difO : Option Nat -> Option Nat -> Bool
  | some x,some y=>x != y
  | _,_=>true
def indE (e e' : Ef) : Bool := difO e.dst e'.dst && difO e.nm e'.nm && offO e.cr e'.names && offO e'.cr e.names
def isNil : Operand -> Bool
  | .const (.slice none 0 0)=>true
  | _=>false
def isBin : Op -> Bool
  | .binOp _ _ _ y _=>isNil y
  | _=>false
def EffA (T : TypeId -> Option Ty) (st : St) (d : Nat) (ts : List TypeId) (as : List V) (K : Ef -> Prop) : Prop :=
  match ts,as with
  | [t, tx], [s, x] => match T t, T tx with
    | some y, some yx => match y.kd, yx.kd with
      | .slice e, .slice _ => match T e with
        | none=>False
        | some z => 0 < z.size /\ z.bytes ≠ 0 /\ match srcL st z.size x with
          | none=>False
          | some l => match s with
            | .nil _=>l.length * z.bytes <= 140737488355328 /\ K (.crt d d (.row e z.size l) (.row d))
            | .row b => match st.b b with
              | some (.row e' c' l0)=>e' = e /\ c' = z.size /\ (l0.length + l.length) * z.bytes <= 140737488355328 /\ K (.crt b d (.row e z.size (l0 ++ l)) (.row b))
              | _=>False
            | .full c' l0=>c' = z.size /\ (l0.length + l.length) * z.bytes <= 140737488355328 /\ ((l ≠ [] \/ l0 = []) /\ K (.crt d d (.row e z.size (l0 ++ l)) (.row d)) \/ K (.put (some d) (.p (.sl z.size (l0 ++ l)))))
            | _=>False
      | _,_=>False
    | _,_=>False
  | _,_=>False
def EffS (T : TypeId -> Option Ty) (st : St) (t : TypeId) (p v : V) (K : Ef -> Prop) : Prop :=
  match T t with
  | none=>False
  | some y => (fix T t v).live st = true /\ match flatV (fix T t v) with
    | none=>False
    | some vs => vs.length = y.size /\ match p with
      | .ptr b off => match st.b b with
        | some (.box e cells) => match stB cells vs off with
          | some cells'=>K (.set b (.box e cells'))
          | none=>False
        | _=>False
      | .eptr b c i j => match st.b b with
        | some (.row e c' l) => c = c' /\ match l[i]?, toPs vs with
          | some el,some ps=>j + ps.length <= el.length /\ K (.set b (.row e c' (l.set i (el.take j ++ ps ++ el.drop (j + ps.length)))))
          | _,_=>False
        | _=>False
      | _=>False
def EffB (T : TypeId -> Option Ty) (st : St) (t : TypeId) (d : Nat) (v : V) (K : Ef -> Prop) : Prop :=
  match T t with
  | none=>False
  | some y => (fix T t v).live st = true /\ match flatV (fix T t v) with
    | some vs=>vs.length = y.size /\ K (.crt d d (.box t (vs.map (scr0 d))) (.ptr d 0))
    | none=>False
def CallR [Glob] (P : Program) (T : TypeId -> Option Ty) (st : St) (d : Option Nat) (g : FuncId) (ts : List TypeId) (as : List V) (K : Ef -> Prop) : Prop :=
  CallQ0 P T st g ts as (fun v=>K (.put d v)) ∨
  (∃ us d' e c l,(argsP T ts as = some us \/ argsB T st ts as = some us /\ flatL l = true) /\ d = some d' /\ Con P g us [] (.ret (.row 2048) [.row e c l] []) /\ K (.crt d' d' (.row e c l) (.row d'))) ∨
  (∃ b us d' e0 c0 l0 e c l,(∃ v ∈ as,b ∈ nms v) /\ d = some d' /\ st.b b = some (.row e0 c0 l0) /\ argsG T [b] ts as = some us /\ ∃ x y,RetB b x y /\ Con P g us [.row e0 c0 l0] (.ret x [] [.row e c l]) /\ K (.crt b d' (.row e c l) y))
def EffR [Glob] (P : Program) (T : TypeId -> Option Ty) (N : Nat) (st : St) (o : Oper) (K : Ef -> Prop) : Prop :=
  match o.op with
  | .alloc t => match o.dst with
    | none=>False
    | some d => dOK N d /\ match T t with
      | some y=>K (.crt d d (.box t (y.zero.map (scr0 d))) (.ptr d 0))
      | none=>False
  | .box t x => match o.dst with
    | none=>False
    | some d=>dOK N d /\ EffB T st t d (evO st x) K
  | .makeSlice _ _ _=>False
  | .store t p x => match o.dst with
    | some _=>False
    | none=>EffS T st t (evO st p) (evO st x) K
  | .call { callee := .builtin .append, args := as, argTypes := ts } => match o.dst with
    | none=>False
    | some d=>dOK N d /\ EffA T st d ts.toList (as.toList.map (evO st)) K
  | .call { callee := .value f, args := as, argTypes := ts } => match yL (evO st f) with
    | some (g,cs,mv)=>yS N o.dst /\ CallR P T st o.dst g (catT mv cs ts.toList) (cat mv (as.toList.map (evO st)) cs) K
    | none=>False
  | .panic _=>False
  | op => isBin op = false /\ yS N o.dst /\ match evV T st o with
    | some v=>K (.put o.dst v)
    | none=>False
theorem EffR_trace [Glob] {P : Program} {T : TypeId -> Option Ty} {N : Nat} {st : St} {o : Oper} {K : Ef -> Prop} (h : EffR P T N st o K) : ∃ e, EffR P T N st o (fun e' => e' = e) /\ K e := by
  unfold EffR at h ⊢
  split at h
  · split at h
    · exact h.elim
    · obtain ⟨h1, h2⟩ := h
      split at h2
      · exact ⟨_,⟨h1,rfl⟩,h2⟩
      · exact h2.elim
  · split at h
    · exact h.elim
    · obtain ⟨h1, h2⟩ := h
      unfold EffB at h2 ⊢
      split at h2
      · exact h2.elim
      · obtain ⟨h3, h4⟩ := h2
        split at h4
        · exact ⟨_,⟨h1,h3,h4.1,rfl⟩,h4.2⟩
        · exact h4.elim
  · exact h.elim
  · split at h
    · exact h.elim
    · unfold EffS at h ⊢
      split at h
      · exact h.elim
      · obtain ⟨h3, h4⟩ := h
        split at h4
        · exact h4.elim
        · obtain ⟨h5, h6⟩ := h4
          split at h6
          · split at h6
            · split at h6
              · exact ⟨_,⟨h3,h5,rfl⟩,h6⟩
              · exact h6.elim
            · exact h6.elim
          · split at h6
            · obtain ⟨h7, h8⟩ := h6
              split at h8
              · exact ⟨_,⟨h3,h5,h7,h8.1,rfl⟩,h8.2⟩
              · exact h8.elim
            · exact h6.elim
          · exact h6.elim
  · split at h
    · exact h.elim
    · obtain ⟨h1, h2⟩ := h
      unfold EffA at h2 ⊢
      split at h2
      · split at h2
        · split at h2
          · split at h2
            · exact h2.elim
            · obtain ⟨h3, h4, h5⟩ := h2
              split at h5
              · exact h5.elim
              · split at h5
                · exact ⟨_,⟨h1,h3,h4,h5.1,rfl⟩,h5.2⟩
                · split at h5
                  · exact ⟨_,⟨h1,h3,h4,h5.1,h5.2.1,h5.2.2.1,rfl⟩,h5.2.2.2⟩
                  · exact h5.elim
                · rcases h5.2.2 with h6 | h6
                  · exact ⟨_,⟨h1,h3,h4,h5.1,h5.2.1,.inl ⟨h6.1,rfl⟩⟩,h6.2⟩
                  · exact ⟨_,⟨h1,h3,h4,h5.1,h5.2.1,.inr rfl⟩,h6⟩
                · exact h5.elim
          · exact h2.elim
        · exact h2.elim
      · exact h2.elim
  · split at h
    · obtain ⟨h1, h2⟩ := h
      rcases h2 with (⟨us,v,h3,h4,h5,h6⟩ | ⟨us,v,h3,h4,h5,h6⟩) | ⟨us,d',e,c,l,h3,h4,h5,h6⟩ | ⟨b,us,d',e0,c0,l0,e,c,l,h3,h4,h5,h6,x,y,hxy,h7,h8⟩
      · exact ⟨_,⟨h1,.inl (.inl ⟨us,v,h3,h4,h5,rfl⟩)⟩,h6⟩
      · exact ⟨_,⟨h1,.inl (.inr ⟨us,v,h3,h4,h5,rfl⟩)⟩,h6⟩
      · exact ⟨_,⟨h1,.inr (.inl ⟨us,d',e,c,l,h3,h4,h5,rfl⟩)⟩,h6⟩
      · exact ⟨_,⟨h1,.inr (.inr ⟨b,us,d',e0,c0,l0,e,c,l,h3,h4,h5,h6,x,y,hxy,h7,rfl⟩)⟩,h8⟩
    · exact h.elim
  · exact h.elim
  · obtain ⟨h1, h2, h3⟩ := h
    split at h3
    · exact ⟨_,⟨h1,h2,rfl⟩,h3⟩
    · exact h3.elim
section
variable {T : TypeId -> Option Ty} {st st' : St}
end
def nj0 : V -> Bool
  | .junk=>false
  | _=>true
def nj : V -> Bool
  | .tup l=>l.all nj0
  | v=>nj0 v
def njB : Blk -> Bool
  | .box _ cells=>cells.all nj0
  | .row _ _ _=>true
def ftN (ops : Array Oper) (st : St) (o : Oper) : List Nat := (o.looksAt ops).flatMap fun t => nms (st.s t)
def ftB (st : St) (b : Nat) : List Nat := match st.b b with
  | some blk=>nmsB blk
  | none=>[]
def rdO (o : Oper) : Bool := match o.op with
  | .move _ | .nilCheck _ | .fieldAddr _ _ _=>false
  | _=>true
def foot (ops : Array Oper) (st : St) (o : Oper) : List Nat := ftN ops st o ++ if rdO o then (ftN ops st o).flatMap (ftB st) else []
def clB (st : St) (b : Nat) : Bool := match st.b b with
  | some blk=>njB blk
  | none=>true
def cln (ops : Array Oper) (st : St) (o : Oper) : Bool := (o.looksAt ops).all (fun t => nj (st.s t)) && (!rdO o || (ftN ops st o).all (clB st))
def OpOK [Glob] (P : Program) (T : TypeId -> Option Ty) (N : Nat) (ops : Array Oper) (st : St) (o : Oper) (e : Ef) : Prop :=
  (zB ops st o = some true /\ EffR P T N st o (fun e'=>e' = e)) \/ (zB ops st o = some false /\ yS N o.dst /\ e = .put o.dst (.tup []))
structure Good [Glob] (P : Program) (T : TypeId -> Option Ty) (N : Nat) (ops : Array Oper) (o : Oper) (e : Ef) (F : List Nat) (st : St) : Prop where
  ok : OpOK P T N ops st o e
  cln : cln ops st o = true
  foot : foot ops st o = F
section
variable {P : Program} {T : TypeId -> Option Ty} {N : Nat} {ops : Array Oper} {o : Oper} {e : Ef} {F : List Nat} {S S' : St}
end
def SL (st0 : St) (es : Nat -> Ef) (L : Nat -> Bool) : Nat -> St
  | 0=>st0
  | k + 1=>if L k then (es k).app (SL st0 es L k) else SL st0 es L k
structure Ind [Glob] (P : Program) (T : TypeId -> Option Ty) (N : Nat) (ops : Array Oper) (st0 : St) (es : Nat -> Ef) (F : Nat -> List Nat) (A : Nat -> Nat -> Prop) : Prop where
  down : ∀ i,i < ops.size -> ∀ k ∈ eds ops i,k < i
  alt : ∀ j k,A j k -> k < j
  anc : ∀ L : Nat -> Bool,(∀ j,j < ops.size -> L j = true -> ∀ k ∈ eds ops j,L k = true) -> ∀ j k,j < ops.size -> L j = true -> A j k -> L k = true
  ind : ∀ i k,i < ops.size -> k < ops.size -> i < k -> ¬ A k i -> indE (es i) (es k) = true
  see : ∀ (i k : Nat) (o : Oper),i < ops.size -> k < ops.size -> i ≠ k -> ¬ A k i -> ¬ A i k -> ops[k]? = some o -> offO (es i).dst (o.looksAt ops) = true /\ offO (if rdO o then (es i).nm else (es i).cr) (F k) = true
  good : ∀ (i : Nat) (o : Oper),ops[i]? = some o -> ((∀ k,k < ops.size -> k ≠ i -> A i k \/ A k i) /\ OpOK P T N ops (SL st0 es (fun _=>true) i) o (es i)) \/ Good P T N ops o (es i) (F i) (SL st0 es (fun _=>true) i)
section
variable {P : Program} {T : TypeId -> Option Ty} {N : Nat} {ops : Array Oper} {st0 : St} {es : Nat -> Ef} {F : Nat -> List Nat} {A : Nat -> Nat -> Prop}
end
def mask1 (T : List Nat) : List Nat -> Nat
  | []=>0
  | m :: r=>2 ^ m ||| T.getD m 0 ||| mask1 T r
def masks (ops : Array Oper) : Nat -> List Nat
  | 0=>[]
  | k + 1=>masks ops k ++ [mask1 (masks ops k) (eds ops k)]
def ancB (M : List Nat) (j k : Nat) : Bool := (M.getD j 0).testBit k
structure Rc where
  e : Ef
  lks : List Nat
  ft : List Nat
  cl : Bool
  rd : Bool
def indR (r r' : Rc) : Bool := indE r.e r'.e && offO r.e.dst r'.lks && offO (if r'.rd then r.e.nm else r.e.cr) r'.ft && offO r'.e.dst r.lks && offO (if r.rd then r'.e.nm else r'.e.cr) r.ft
def totM (M : List Nat) (n i : Nat) : Bool := (List.range n).all fun k => k == i || (ancB M i k || ancB M k i)
def okRs (M : List Nat) (rs : List Rc) : Bool := ((List.range rs.length).all fun i => ((rs[i]?).map (·.cl)).getD true || totM M rs.length i) && (List.range rs.length).all fun k => (List.range k).all fun i => ancB M k i || match rs[i]?, rs[k]? with
  | some r,some r'=>indR r r'
  | _,_=>true
inductive Runs [Glob] (P : Program) (T : TypeId -> Option Ty) (N : Nat) (ops : Array Oper) : Nat -> List Rc -> St -> List Rc -> St -> Prop
  | done (rs : List Rc) (st : St) (h : rs.length = ops.size) : Runs P T N ops rs.length rs st rs st
  | step (rs : List Rc) (st : St) (o : Oper) (e : Ef) (rs' : List Rc) (st' : St) (ho : ops[rs.length]? = some o) (hok : OpOK P T N ops st o e) 
      (hr : Runs P T N ops (rs.length + 1) (rs ++ [⟨e,o.looksAt ops,foot ops st o,cln ops st o,rdO o⟩]) (e.app st) rs' st') : Runs P T N ops rs.length rs st rs' st'
def downB (ops : Array Oper) : Bool := (List.range ops.size).all fun i => (eds ops i).all (· < i)
section
variable {P : Program} {T : TypeId -> Option Ty} {N : Nat} {ops : Array Oper}
structure Told [Glob] (P : Program) (T : TypeId -> Option Ty) (N : Nat) (ops : Array Oper) (st0 : St) (rs : List Rc) : Prop where
  le : rs.length <= ops.size
  at_ : ∀ (i : Nat) (r : Rc) (o : Oper),rs[i]? = some r -> ops[i]? = some o -> (r.lks = o.looksAt ops /\ r.rd = rdO o) /\ ((r.cl = false /\ OpOK P T N ops (SL st0 (fun j=>((rs[j]?).map (·.e)).getD (.put none .junk)) (fun _=>true) i) o r.e) \/ Good P T N ops o r.e r.ft (SL st0 (fun j=>((rs[j]?).map (·.e)).getD (.put none .junk)) (fun _=>true) i))
end
end Go.Av
