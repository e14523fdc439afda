/- Texts that the proof needs: AvCon. -/
import Derived.Test.YtjekjpgccnhobaaDoorP6ConfigBack
namespace Go.Av
open Go
def renC (ρ : Nat -> Option Nat) : Cap -> Option Cap
 | .box b => match ρ b with
  | some b'=>some (.box b')
  | none=>none
 | .val p=>some (.val p)
 | .rp e j=>some (.rp e j)
def renCs (ρ : Nat -> Option Nat) : List Cap -> Option (List Cap)
 | []=>some []
 | c :: l => match renC ρ c, renCs ρ l with
  | some c',some l'=>some (c' :: l')
  | _,_=>none
def renF (σ : Nat -> Option Nat) : Fc -> Option Fc
 | .row b => match σ b with
  | some b'=>some (.row b')
  | none=>none
 | .p p=>some (.p p)
 | .nil c=>some (.nil c)
def renFs (σ : Nat -> Option Nat) : List Fc -> Option (List Fc)
 | []=>some []
 | c :: l => match renF σ c, renFs σ l with
  | some c',some l'=>some (c' :: l')
  | _,_=>none
def yE (ρ σ : Nat -> Option Nat) : V -> V
 | .ptr b o => match ρ b with
  | some b'=>.ptr b' o
  | none=>.junk
 | .eptr b c i j => match σ b with
  | some b'=>.eptr b' c i j
  | none=>.junk
 | .row b => match σ b with
  | some b'=>.row b'
  | none=>.junk
 | .clo f caps => match renCs ρ caps with
  | some cs=>.clo f cs
  | none=>.junk
 | .ag l => match renFs σ l with
  | some l'=>.ag l'
  | none=>.junk
 | .suf b c i => match σ b with
  | some b'=>.suf b' c i
  | none=>.junk
 | v=>v
def ren (ρ σ : Nat -> Option Nat) : V -> V
 | .tup l=>.tup (l.map (yE ρ σ))
 | v=>yE ρ σ v
def renB (ρ σ : Nat -> Option Nat) : Blk -> Blk
 | .box e cells=>.box e (cells.map (yE ρ σ))
 | .row e c l=>.row e c l
structure Sends (m m' : Nm) (ρ σ : Nat -> Option Nat) : Prop where
 i : ∀ b b',ρ b = some b' -> m'.i b' = m.i b
 r : ∀ b b',σ b = some b' -> m'.r b' = m.r b
theorem renCs_get {ρ : Nat -> Option Nat} : ∀ {l l' : List Cap}, renCs ρ l = some l' -> l'.length = l.length /\ ∀ (i : Nat) (c' : Cap), l'[i]? = some c' -> ∃ c, l[i]? = some c /\ renC ρ c = some c'
 | [],l',h=>by simp only [renCs,xU] at h;subst h;simp
 | c :: l, l', h => by
  simp only [renCs] at h
  split at h
  ·rename_i c1 l1 hc hl
   simp only [xU] at h
   subst h
   obtain ⟨h1,h2⟩:=renCs_get hl
   refine ⟨by simp [h1],fun i c' hi=>?_⟩
   cases i with
   | zero=>simp at hi;subst hi;exact ⟨c,rfl,hc⟩
   | succ i=>simpa using h2 i c' (by simpa using hi)
  ·simp at h
theorem renFs_get {σ : Nat -> Option Nat} : ∀ {l l' : List Fc}, renFs σ l = some l' -> l'.length = l.length /\ ∀ (i : Nat) (c' : Fc), l'[i]? = some c' -> ∃ c, l[i]? = some c /\ renF σ c = some c'
 | [],l',h=>by simp only [renFs,xU] at h;subst h;simp
 | c :: l, l', h => by
  simp only [renFs] at h
  split at h
  ·rename_i c1 l1 hc hl
   simp only [xU] at h
   subst h
   obtain ⟨h1,h2⟩:=renFs_get hl
   refine ⟨by simp [h1],fun i c' hi=>?_⟩
   cases i with
   | zero=>simp at hi;subst hi;exact ⟨c,rfl,hc⟩
   | succ i=>simpa using h2 i c' (by simpa using hi)
  ·simp at h
theorem RV0.ren [Glob] {w w' : World} {G G' : Nat -> Prop} {m m' : Nm} {ρ σ : Nat -> Option Nat} (ht : Turn w w' G G') (hs : Sends m m' ρ σ) {v : V} {x : Value} (h : RV0 w G m v x) : RV0 w' G' m' (yE ρ σ v) x := by
 cases v with
 | p p=>exact RV0.keep (v:=.p p) ht h
 | nil c=>exact h
 | full c l=>exact RV0.keep (v:=.full c l) ht h
 | ptr b off =>
  simp only [yE]
  split
  ·rename_i b' hb
   show x = _
   rw [hs.i b b' hb];exact h
  ·trivial
 | eptr b c i j =>
  simp only [yE]
  split
  ·rename_i b' hb
   simp only [RV0] at h ⊢
   rw [hs.r b b' hb];exact h
  ·trivial
 | row b =>
  simp only [yE]
  split
  ·rename_i b' hb
   show x = _
   rw [hs.r b b' hb];exact h
  ·trivial
 | rptr e j =>
  obtain ⟨k,off,hx,hr⟩:=h
  exact ⟨k,off,hx,hr.move ht.size ht.block ht.less⟩
 | clo f caps =>
  simp only [yE]
  split
  ·rename_i cs' hc
   obtain ⟨cs,hx,hl,hcs⟩:=h
   obtain ⟨h1,h2⟩:=renCs_get hc
   refine ⟨cs,hx,by rw [hl,h1],fun i c' hi=>?_⟩
   obtain ⟨c,h3,h4⟩:=h2 i c' hi
   obtain ⟨y,h5,h6⟩:=hcs i c h3
   refine ⟨y,h5,?_⟩
   cases c with
   | box b =>
    simp only [renC] at h4
    split at h4
    ·rename_i b' hb
     simp only [xU] at h4
     subst h4
     show y = _
     rw [hs.i b b' hb];exact h6
    ·simp at h4
   | val p =>
    simp only [renC,xU] at h4
    subst h4
    exact RC.keep (c:=.val p) ht h6
   | rp e j =>
    simp only [renC,xU] at h4
    subst h4
    exact RC.keep (c:=.rp e j) ht h6
  ·trivial
 | ag l =>
  simp only [yE]
  split
  ·rename_i l' hl'
   obtain ⟨cs,hx,hl,hcs⟩:=h
   obtain ⟨h1,h2⟩:=renFs_get hl'
   refine ⟨cs,hx,by rw [hl,h1],fun i c' hi=>?_⟩
   obtain ⟨c,h3,h4⟩:=h2 i c' hi
   obtain ⟨y,h5,h6,h7⟩:=hcs i c h3
   refine ⟨y,h5,h6,?_⟩
   cases c with
   | row b =>
    simp only [renF] at h4
    split at h4
    ·rename_i b' hb
     simp only [xU] at h4
     subst h4
     show y = _
     rw [hs.r b b' hb];exact h7
    ·simp at h4
   | p p =>
    simp only [renF,xU] at h4
    subst h4
    exact RF.keep (c:=.p p) ht h7
   | nil c0 =>
    simp only [renF,xU] at h4
    subst h4
    exact h7
  ·trivial
 | suf b c i =>
  simp only [yE]
  split
  ·rename_i b' hb
   simp only [RV0] at h ⊢
   rw [hs.r b b' hb];exact h
  ·trivial
 | tup l=>exact h.elim
 | junk=>trivial
structure Hp [Glob] (w : World) (F : Nat -> Prop) (m : Nm) (β : Nat -> Option Blk) : Prop where
 fold : ∀ k,F k -> k < w.heap.size
 own : ∀ b k,owns m β b k -> k < w.heap.size /\ ¬ F k
 uniq : ∀ b b' k,owns m β b k -> owns m β b' k -> b = b'
 blks : ∀ b blk,β b = some blk -> RB w (Gd F m β) m b blk
 glob : ∀ g e,Glob.g g = some e -> GE w (Gd F m β) e g
theorem Hp.none [Glob] {w : World} {F : Nat -> Prop} {m : Nm} {β : Nat -> Option Blk} (hF : ∀ k, F k -> k < w.heap.size) (hβ : ∀ b, β b = .none) (hg : ∀ g e, Glob.g g = some e -> GE w F e g) : Hp w F m β :=
 ⟨hF, fun b k h => by simp [owns, hβ] at h, fun b b' k h => by simp [owns, hβ] at h, fun b blk h => by rw [hβ] at h; simp at h, fun g e h => (hg g e h).less fun k hk => by
  rcases hk with hk | ⟨b,hb⟩
  ·exact hk
  ·simp [owns,hβ] at hb⟩
def nmF (β R : List Blk) : Nat -> Option Blk := fun n => if n < 1024 then none else if n < 2048 then β[n - 1024]? else R[n - 2048]?
inductive Out where
 | ret (v : V) (R β : List Blk)
 | pan (x : Value) (β : List Blk)
def OutR [Glob] (w0 : World) (F X : Nat -> Prop) (m : Nm) (e : Ending) (w : World) : Out -> Prop
 | .ret v R β=>∃ x m',e = .returned x /\ Hp w F m' (nmF β R) /\ (∀ n k,owns m' (nmF β R) n k -> w0.heap.size <= k \/ X k) /\ (∀ n,1024 <= n -> n < 2048 -> m'.i n = m.i n) /\ RV w (Gd F m' (nmF β R)) m' v x
 | .pan y β=>∃ m',e = .panicked [{ v:=y,recovered:=false }] /\ Hp w F m' (nmF β []) /\ (∀ n k,owns m' (nmF β []) n k -> w0.heap.size <= k \/ X k) /\ (∀ n,1024 <= n -> n < 2048 -> m'.i n = m.i n)
def Enters (P : Program) (g : FuncId) : Prop := ∃ fn : Func, P.funcs[g]? = some fn /\ (fn.name == "runtime.NumGoroutine") = false /\ fn.body.isNone = false
def CallX (P : Program) (g : FuncId) (args : Array Value) (w : World) (R : Ending -> World -> Prop) : Prop :=
 (Enters P g /\ Calls P g args w R) \/ ∃ x w',(callFunc g args).run P w = .ok (.value x) w' /\ R (.returned x) w'
theorem CallX.calls {P : Program} {g : FuncId} {args : Array Value} {w : World} {R : Ending -> World -> Prop} (he : Enters P g) (h : CallX P g args w R) : Calls P g args w R := by
 rcases h with ⟨-,h2⟩ | ⟨x,w',h1,h2⟩
 ·exact h2
 ·obtain ⟨fn, g1, g2, g3⟩ := he
  have g2' : ¬ fn.name = "runtime.NumGoroutine" := by simpa using g2
  have g3' : ¬ fn.body = none:=by intro h0;rw [h0] at g3;simp at g3
  simp [callFunc,g1,g2',g3'] at h1
def Con [Glob] (P : Program) (g : FuncId) (args : List V) (β : List Blk) (out : Out) : Prop :=
 ∀ (F : Nat -> Prop) (w : World) (m : Nm) (xs : List Value), Hp w F m (nmF β []) -> xs.length = args.length →
  (∀ (i : Nat) (v : V),args[i]? = some v -> ∃ x,xs[i]? = some x /\ RV0 w (Gd F m (nmF β [])) m v x) →
  CallX P g xs.toArray w fun e w'=>Keeps (fun k=>∃ n,owns m (nmF β []) n k) w w' /\ OutR w F (fun k=>∃ n,owns m (nmF β []) n k) m e w' out
def ConW [Glob] (P : Program) (g : FuncId) (args : List V) (e c : Nat) (l0 l1 : List (List PV)) (v : V) : Prop :=
 ∀ (F : Nat -> Prop) (w : World) (m : Nm) (xs : List Value), Hp w F m (nmF [.row e c l0] []) -> xs.length = args.length →
  (∀ (i : Nat) (v : V),args[i]? = some v -> ∃ x,xs[i]? = some x /\ RV0 w (Gd F m (nmF [.row e c l0] [])) m v x) →
  CallX P g xs.toArray w fun e' w'=>Keeps (fun k=>∃ n,owns m (nmF [.row e c l0] []) n k) w w' /\ ∃ x,e' = .returned x /\ Hp w' F m (nmF [.row e c l1] []) /\ RV w' (Gd F m (nmF [.row e c l1] [])) m v x
abbrev zD [Glob] (P : Program) (g : FuncId) (args : List V) (v : V) : Prop := Con P g args [] (.ret v [] [])
theorem yT (n : Nat) : nmF [] [] n = none := by simp [nmF]
theorem Gd_nil [Glob] {F : Nat -> Prop} {m : Nm} {k : Nat} (h : Gd F m (nmF [] []) k) : F k := by
 rcases h with h | ⟨n,h⟩
 ·exact h
 ·simp [owns,yT] at h
def pureV : V -> Bool
 | .p _=>true
 | .tup l=>l.all fun | .p _=>true | _=>false
 | _=>false
def flatPV : PV -> Bool
 | .v _=>true
 | .agg l=>l.all fun | .v _=>true | _=>false
 | .sl _ _=>false
def flatR : V -> Bool
 | .p p=>flatPV p
 | .tup l=>l.all fun | .p p=>flatPV p | _=>false
 | _=>false
section
variable {P : Program} {T : TypeId -> Option Ty} {w0 : World} {m0 : Nm} {F X : Nat -> Prop} {N : Nat} {st : St} {a : Act} {w : World} {m : Nm}
def Cap.free : Cap -> Bool
 | .box _=>false
 | _=>true
def argP (T : TypeId -> Option Ty) (t : TypeId) (v : V) : Option V :=
 match fix T t v with
 | .rptr e j=>some (.rptr e j)
 | .clo f cs=>if cs.all Cap.free then some (.clo f cs) else none
 | v => match toP v with
  | some p=>some (.p p)
  | none=>none
def argsP (T : TypeId -> Option Ty) : List TypeId -> List V -> Option (List V)
 | _,[]=>some []
 | ts, v :: r => match argP T (ts.headD 0) v, argsP T ts.tail r with
  | some x,some l=>some (x :: l)
  | _,_=>none
def lendL (st : St) : List Fc -> Option (List PV)
 | []=>some []
 | .p p :: r => match lendL st r with
  | some l=>some (p :: l)
  | none=>none
 | .nil c :: r => match lendL st r with
  | some l=>some (.sl c [] :: l)
  | none=>none
 | .row b :: r => match st.b b, lendL st r with
  | some (.row _ c l0),some l=>some (.sl c l0 :: l)
  | _,_=>none
def argB (T : TypeId -> Option Ty) (st : St) (t : TypeId) : V -> Option V
 | .row b => match st.b b with
  | some (.row _ c l)=>some (.p (.sl c l))
  | _=>none
 | .ag l => match lendL st l with
  | some ps=>some (.p (.agg ps))
  | none=>none
 | v=>argP T t v
theorem lendL_b {st st' : St} (hb : st.b = st'.b) : ∀ {l : List Fc}, lendL st l = lendL st' l
 | []=>rfl
 | .p p :: r=>by simp only [lendL];rw [lendL_b hb (l:=r)]
 | .nil c :: r=>by simp only [lendL];rw [lendL_b hb (l:=r)]
 | .row b :: r=>by simp only [lendL];rw [hb,lendL_b hb (l:=r)]
def lends (b : Nat) : V -> Prop
 | .row b'=>b' = b
 | .ag l=>Fc.row b ∈ l
 | _=>False
def argsB (T : TypeId -> Option Ty) (st : St) : List TypeId -> List V -> Option (List V)
 | _,[]=>some []
 | ts, v :: r => match argB T st (ts.headD 0) v, argsB T st ts.tail r with
  | some x,some l=>some (x :: l)
  | _,_=>none
theorem argP_run [Glob] {G G' : Nat -> Prop} (hG : ∀ k, G' k -> G k) {t : TypeId} {v u : V} (h : argP T t v = some u) {x : Value} (hx : RV w G m v x) (m' : Nm) : RV0 w G' m' u x := by
 have ht : Turn w w G G':=⟨Nat.le_refl _,fun _ _ _=>rfl,fun k _ hg=>hG k hg⟩
 unfold argP at h
 have hx':=hx.fix T t
 split at h
 ·rename_i e j hf
  simp only [xU] at h;subst h
  rw [hf] at hx'
  obtain ⟨k,off,hx,hr⟩:=hx'
  exact ⟨k,off,hx,hr.move ht.size ht.block ht.less⟩
 ·rename_i f caps hf
  split at h
  ·rename_i hfr
   simp only [xU] at h;subst h
   rw [hf] at hx'
   obtain ⟨cs,h1,h2,h3⟩:=hx'
   refine ⟨cs,h1,h2,fun i c hi=>?_⟩
   obtain ⟨y,h4,h5⟩:=h3 i c hi
   refine ⟨y,h4,?_⟩
   have hc:=List.all_eq_true.1 hfr c (List.mem_of_getElem? hi)
   cases c with
   | box b=>simp [Cap.free] at hc
   | val p=>exact RC.keep (c:=.val p) ht h5
   | rp e j=>exact RC.keep (c:=.rp e j) ht h5
  ·simp at h
 ·split at h
  ·rename_i p hp
   simp only [xU] at h;subst h
   exact RP.mono hG (hx'.toP hp)
  ·simp at h
theorem argsP_run [Glob] {G G' : Nat -> Prop} (hG : ∀ k, G' k -> G k) (m' : Nm) : ∀ {ts : List TypeId} {vs us : List V} {xs : List Value}, argsP T ts vs = some us -> xs.length = vs.length →
 (∀ (i : Nat) (v : V),vs[i]? = some v -> ∃ x,xs[i]? = some x /\ RV w G m v x) -> us.length = vs.length /\ ∀ (i : Nat) (u : V),us[i]? = some u -> ∃ x,xs[i]? = some x /\ RV0 w G' m' u x
 | ts,[],us,xs,h,hl,hx=>by simp [argsP] at h;subst h;simp
 | ts, v :: r, us, xs, h, hl, hx => by
  simp only [argsP] at h
  split at h
  ·rename_i u l hu hr
   simp only [xU] at h;subst h
   cases xs with
   | nil=>simp at hl
   | cons x xs =>
    obtain ⟨h1,h2⟩:=argsP_run hG m' (xs:=xs) hr (by simpa using hl) (fun i v hi=>by simpa using hx (i + 1) v (by simpa using hi))
    refine ⟨by simp [h1],fun i u' hi=>?_⟩
    cases i with
    | zero =>
     simp only [List.getElem?_cons_zero,xU] at hi
     subst hi
     obtain ⟨x',hx1,hx2⟩:=hx 0 v rfl
     simp only [List.getElem?_cons_zero,xU] at hx1
     subst hx1
     exact ⟨x,rfl,argP_run hG hu hx2 m'⟩
    | succ i=>simpa using h2 i u' (by simpa using hi)
  ·simp at h
def LentF (F : Nat -> Prop) (m : Nm) (st : St) (vs : List V) (k : Nat) : Prop := Gd F m st.b k /\ ¬ ∃ b, (∃ v ∈ vs, lends b v) /\ owns m st.b b k
theorem lendL_run [Glob] (h : Rel w0 m0 F X N st a w m) {V0 : List V} : ∀ {l : List Fc} {ps : List PV}, lendL st l = some ps -> (∀ b, Fc.row b ∈ l -> ∃ v ∈ V0, lends b v) →
 ps.length = l.length /\ ∀ (i : Nat) (p : PV),ps[i]? = some p -> ∃ c,l[i]? = some c /\ ∀ y,y.oneCell' = true -> RF w (Gd F m st.b) m c y -> p.one = true /\ RP w (LentF F m st V0) p y
 | [],ps,hh,_=>by simp only [lendL,xU] at hh;subst hh;simp
 | .p q :: r, ps, hh, hV => by
  simp only [lendL] at hh
  split at hh
  ·rename_i l' hl'
   simp only [xU] at hh;subst hh
   obtain ⟨h1,h2⟩:=lendL_run h hl' (fun b hb=>hV b (List.mem_cons_of_mem _ hb))
   refine ⟨by simp [h1],fun i p hi=>?_⟩
   cases i with
   | zero =>
    simp only [List.getElem?_cons_zero,xU] at hi
    subst hi
    refine ⟨_,rfl,fun y hy hr=>?_⟩
    have hr' : RP w (Gd F m st.b) q y:=hr
    refine ⟨?_,RP.move (Nat.le_refl _) (fun _ _ _=>rfl) (fun k _ hg=>hg.1) hr'⟩
    cases q with
    | agg l => cases hr' with
     | agg l cs u hs hone hcell hr=>simp [Value.oneCell'] at hy
    | _=>rfl
   | succ i=>simpa using h2 i p (by simpa using hi)
  ·simp at hh
 | .nil c :: r, ps, hh, hV => by
  simp only [lendL] at hh
  split at hh
  ·rename_i l' hl'
   simp only [xU] at hh;subst hh
   obtain ⟨h1,h2⟩:=lendL_run h hl' (fun b hb=>hV b (List.mem_cons_of_mem _ hb))
   refine ⟨by simp [h1],fun i p hi=>?_⟩
   cases i with
   | zero =>
    simp only [List.getElem?_cons_zero,xU] at hi
    subst hi
    exact ⟨_,rfl,fun y hy hr=>⟨rfl,by rw [show y = .slice none 0 0 from hr];exact .nil _⟩⟩
   | succ i=>simpa using h2 i p (by simpa using hi)
  ·simp at hh
 | .row b :: r, ps, hh, hV => by
  simp only [lendL] at hh
  split at hh
  ·rename_i e c l0 l' hb hl'
   simp only [xU] at hh;subst hh
   obtain ⟨h1,h2⟩:=lendL_run h hl' (fun b hb=>hV b (List.mem_cons_of_mem _ hb))
   refine ⟨by simp [h1],fun i p hi=>?_⟩
   cases i with
   | zero =>
    simp only [List.getElem?_cons_zero,xU] at hi
    subst hi
    refine ⟨_,rfl,fun y hy hr=>?_⟩
    rw [show y = m.r b from hr]
    refine ⟨rfl,RP.of_row (h.blks b _ hb) ⟨Nat.le_refl _,fun _ _ _=>rfl,fun k _ hg=>hg.1⟩ fun k hk hg=>hg.2 ⟨b,hV b (List.mem_cons_self ..),?_⟩⟩
    unfold owns;rw [hb];exact hk
   | succ i=>simpa using h2 i p (by simpa using hi)
  ·simp at hh
theorem argsB_run [Glob] (h : Rel w0 m0 F X N st a w m) (m' : Nm) (V0 : List V) : ∀ {ts : List TypeId} {vs us : List V} {xs : List Value}, argsB T st ts vs = some us -> xs.length = vs.length -> (∀ v ∈ vs, v ∈ V0) →
 (∀ (i : Nat) (v : V),vs[i]? = some v -> ∃ x,xs[i]? = some x /\ RV w (Gd F m st.b) m v x) -> us.length = vs.length /\ ∀ (i : Nat) (u : V),us[i]? = some u -> ∃ x,xs[i]? = some x /\ RV0 w (LentF F m st V0) m' u x
 | ts,[],us,xs,hh,hl,_,hx=>by simp [argsB] at hh;subst hh;simp
 | ts, v :: r, us, xs, hh, hl, hin, hx => by
  simp only [argsB] at hh
  split at hh
  ·rename_i u l hu hr
   simp only [xU] at hh;subst hh
   cases xs with
   | nil=>simp at hl
   | cons x xs =>
    obtain ⟨h1,h2⟩:=argsB_run h m' V0 (xs:=xs) hr (by simpa using hl) (fun v hv=>hin v (List.mem_cons_of_mem _ hv)) (fun i v hi=>by simpa using hx (i + 1) v (by simpa using hi))
    refine ⟨by simp [h1],fun i u' hi=>?_⟩
    cases i with
    | zero =>
     simp only [List.getElem?_cons_zero,xU] at hi
     subst hi
     obtain ⟨x',hx1,hx2⟩:=hx 0 v rfl
     simp only [List.getElem?_cons_zero,xU] at hx1
     subst hx1
     refine ⟨x,rfl,?_⟩
     unfold argB at hu
     split at hu
     ·rename_i b
      split at hu
      ·rename_i e c l' hb
       simp only [xU] at hu
       subst hu
       rw [show x = m.r b from hx2]
       refine RP.of_row (h.blks b _ hb) ⟨Nat.le_refl _,fun _ _ _=>rfl,fun k _ hg=>hg.1⟩ fun k hk hg=>hg.2 ⟨b,⟨_,hin _ (List.mem_cons_self ..),rfl⟩,?_⟩
       unfold owns;rw [hb];exact hk
      ·simp at hu
     ·rename_i lf
      split at hu
      ·rename_i ps hps
       simp only [xU] at hu
       subst hu
       obtain ⟨cs,rfl,hsz,hcs⟩:=hx2
       obtain ⟨g1,g2⟩:=lendL_run h (V0:=V0) hps (fun b hb=>⟨_,hin _ (List.mem_cons_self ..),hb⟩)
       have key : ∀ (j : Nat) (p : PV), ps[j]? = some p -> cs[j]? = some (cs.getD j undef) /\ p.one = true /\ RP w (LentF F m st V0) p (cs.getD j undef) := fun j p hj => by
        obtain ⟨c,hc,hg⟩:=g2 j p hj
        obtain ⟨y,y1,y2,y3⟩:=hcs j c hc
        have : cs.getD j undef = y:=by simp [Array.getD_eq_getD_getElem?,y1]
        rw [this]
        exact ⟨y1,hg y y2 y3⟩
       exact .agg ps cs (fun j=>cs.getD j undef) (by rw [hsz,g1]) (fun j p hj=>(key j p hj).2.1) (fun j p hj=>(key j p hj).1) (fun j p hj=>(key j p hj).2.2)
      ·simp at hu
     ·exact argP_run (fun k hk=>hk.1) hu hx2 m'
    | succ i=>simpa using h2 i u' (by simpa using hi)
  ·simp at hh
def pos : List Nat -> Nat -> Option Nat
 | [],_=>none
 | a :: l, b => if a = b then some 0 else match pos l b with
  | some i=>some (i + 1)
  | none=>none
theorem pos_some : ∀ {l : List Nat} {b i : Nat}, pos l b = some i -> l[i]? = some b
 | [],_,_,h=>by simp [pos] at h
 | a :: l, b, i, h => by
  simp only [pos] at h
  split at h
  ·simp only [xU] at h;subst h;simpa using by assumption
  ·split at h
   ·rename_i j hj
    simp only [xU] at h;subst h
    simpa using pos_some hj
   ·simp at h
def inN (S : List Nat) (b : Nat) : Option Nat := match pos S b with
 | some i=>some (1024 + i)
 | none=>none
def blksOf (st : St) (ρ : Nat -> Option Nat) : List Nat -> Option (List Blk)
 | []=>some []
 | b :: l => match st.b b, blksOf st ρ l with
  | some blk,some r=>some (renB ρ ρ blk :: r)
  | _,_=>none
def argG (T : TypeId -> Option Ty) (S : List Nat) (t : TypeId) (v : V) : Option V :=
 match fix T t v with
 | .ptr b o=>some (yE (inN S) (inN S) (.ptr b o))
 | .eptr b c i j=>some (yE (inN S) (inN S) (.eptr b c i j))
 | .row b=>some (yE (inN S) (inN S) (.row b))
 | .clo f cs=>some (yE (inN S) (inN S) (.clo f cs))
 | .rptr e j=>some (.rptr e j)
 | .ag l => match toP (.ag l) with
  | some p=>some (.p p)
  | none=>some (yE (inN S) (inN S) (.ag l))
 | v => match toP v with
  | some p=>some (.p p)
  | none=>none
def argsG (T : TypeId -> Option Ty) (S : List Nat) : List TypeId -> List V -> Option (List V)
 | _,[]=>some []
 | ts, v :: r => match argG T S (ts.headD 0) v, argsG T S ts.tail r with
  | some x,some l=>some (x :: l)
  | _,_=>none
def inM (m : Nm) (S : List Nat) : Nm := ⟨fun n => m.i (S.getD (n - 1024) 0), fun n => m.r (S.getD (n - 1024) 0)⟩
def RestF (F : Nat -> Prop) (m : Nm) (st : St) (S : List Nat) (k : Nat) : Prop := F k \/ ∃ b, pos S b = none /\ owns m st.b b k
theorem inM_sends [Glob] (m : Nm) (S : List Nat) : Sends m (inM m S) (inN S) (inN S) := by
 have key : ∀ b b', inN S b = some b' -> S.getD (b' - 1024) 0 = b := fun b b' h => by
  unfold inN at h
  split at h
  ·rename_i i hi
   simp only [xU] at h
   subst h
   rw [show 1024 + i - 1024 = i from by omega,List.getD_eq_getElem?_getD,pos_some hi];rfl
  ·simp at h
 exact ⟨fun b b' h=>by simp only [inM];rw [key b b' h],fun b b' h=>by simp only [inM];rw [key b b' h]⟩
theorem argG_run [Glob] {S : List Nat} {G G' : Nat -> Prop} (hG : ∀ k, G' k -> G k) {t : TypeId} {v u : V} (h : argG T S t v = some u) {x : Value} (hx : RV w G m v x) : RV0 w G' (inM m S) u x := by
 have ht : Turn w w G G':=⟨Nat.le_refl _,fun _ _ _=>rfl,fun k _ hg=>hG k hg⟩
 unfold argG at h
 have hx':=hx.fix T t
 split at h
 case h_5 e j hf =>
  simp only [xU] at h;subst h
  rw [hf] at hx'
  obtain ⟨k,off,hx,hr⟩:=hx'
  exact ⟨k,off,hx,hr.move ht.size ht.block ht.less⟩
 case h_6 l hf =>
  rw [hf] at hx'
  split at h
  ·rename_i p hp
   simp only [xU] at h;subst h
   exact RP.mono hG (hx'.toP hp)
  ·simp only [xU] at h; subst h
   exact RV0.ren (v:=.ag _) ht (inM_sends m S) hx'
 case h_7 =>
  split at h
  ·rename_i p hp
   simp only [xU] at h;subst h
   exact RP.mono hG (hx'.toP hp)
  ·simp at h
 all_goals
  rename_i hf
  simp only [xU] at h;subst h
  rw [hf] at hx'
 ·exact RV0.ren (v:=.ptr _ _) ht (inM_sends m S) hx'
 ·exact RV0.ren (v:=.eptr _ _ _ _) ht (inM_sends m S) hx'
 ·exact RV0.ren (v:=.row _) ht (inM_sends m S) hx'
 ·exact RV0.ren (v:=.clo _ _) ht (inM_sends m S) hx'
theorem argsG_run [Glob] {S : List Nat} {G G' : Nat -> Prop} (hG : ∀ k, G' k -> G k) : ∀ {ts : List TypeId} {vs us : List V} {xs : List Value}, argsG T S ts vs = some us -> xs.length = vs.length →
 (∀ (i : Nat) (v : V),vs[i]? = some v -> ∃ x,xs[i]? = some x /\ RV w G m v x) -> us.length = vs.length /\ ∀ (i : Nat) (u : V),us[i]? = some u -> ∃ x,xs[i]? = some x /\ RV0 w G' (inM m S) u x
 | ts,[],us,xs,h,hl,hx=>by simp [argsG] at h;subst h;simp
 | ts, v :: r, us, xs, h, hl, hx => by
  simp only [argsG] at h
  split at h
  ·rename_i u l hu hr
   simp only [xU] at h;subst h
   cases xs with
   | nil=>simp at hl
   | cons x xs =>
    obtain ⟨h1,h2⟩:=argsG_run hG (xs:=xs) hr (by simpa using hl) (fun i v hi=>by simpa using hx (i + 1) v (by simpa using hi))
    refine ⟨by simp [h1],fun i u' hi=>?_⟩
    cases i with
    | zero =>
     simp only [List.getElem?_cons_zero,xU] at hi
     subst hi
     obtain ⟨x',hx1,hx2⟩:=hx 0 v rfl
     simp only [List.getElem?_cons_zero,xU] at hx1
     subst hx1
     exact ⟨x,rfl,argG_run hG hu hx2⟩
    | succ i=>simpa using h2 i u' (by simpa using hi)
  ·simp at h
def ouN (S A : List Nat) (n : Nat) : Option Nat := if n < 1024 then none else if n < 2048 then S[n - 1024]? else A[n - 2048]?
def kpI (A : List Nat) (b : Nat) : Option Nat := match pos A b with
 | some _=>none
 | none=>some b
def kpR (S A : List Nat) (b : Nat) : Option Nat := match pos A b with
 | some _=>none
 | none => match pos S b with
  | some _=>none
  | none=>some b
def lv (st : St) (S A : List Nat) (R β : List Blk) : St :=
 ⟨fun t => ren (kpI A) (kpR S A) (st.s t), fun b => match pos A b with
  | some j=>(R[j]?).map (renB (ouN S A) (ouN S A))
  | none => match pos S b with
   | some i=>(β[i]?).map (renB (ouN S A) (ouN S A))
   | none=>(st.b b).map (renB (kpI A) (kpR S A))⟩
def ouM (m m2 : Nm) (S A : List Nat) : Nm :=
 ⟨fun b => match pos A b with
  | some j=>m2.i (2048 + j)
  | none=>m.i b,
  fun b => match pos A b with
   | some j=>m2.r (2048 + j)
   | none => match pos S b with
    | some i=>m2.r (1024 + i)
    | none=>m.r b⟩
def frz (st : St) (b c : Nat) (l : List (List PV)) : St := ⟨fun t => sub b (.sl c l) (st.s t), fun b' => if b' = b then none else (st.b b').map (subB b (.sl c l))⟩
def plC : List V -> Option (List PV)
 | []=>some []
 | .p q :: l => match plC l with
  | some r=>some (q :: r)
  | none=>none
 | _ :: _=>none
def subxC (b : Nat) (es : List PV) : Cap -> Cap
 | .box b'=>if b' = b then .rp es 0 else .box b'
 | c=>c
def subx0 (b : Nat) (es : List PV) : V -> V
 | .ptr b' o=>if b' = b then .rptr es o else .ptr b' o
 | .clo f cs=>.clo f (cs.map (subxC b es))
 | v=>v
def subx (b : Nat) (es : List PV) : V -> V
 | .tup l=>.tup (l.map (subx0 b es))
 | v=>subx0 b es v
def subxB (b : Nat) (es : List PV) : Blk -> Blk
 | .box e cells=>.box e (cells.map (subx0 b es))
 | .row e c l=>.row e c l
inductive Gh where
 | frz (b : Nat)
 | row (t e c : Nat)
 | bx (b : Nat)
 | cel (b j n e c : Nat)
def gh1 (st : St) : Gh -> St
 | .frz b => match st.b b with
  | some (.row _ c l)=>Av.frz st b c l
  | _=>st
 | .row t e c => if t < 1024 then match st.s t with
  | .nil _=>⟨fun t'=>if t' = t then .row t else scr t (st.s t'),fun b=>if b = t then some (.row e c []) else (st.b b).map (scrB t)⟩
  | _=>st
  else st
 | .bx b => match st.b b with
  | some (.box _ cells) => match plC cells with
   | some es=>Av.frzx st b es
   | none=>st
  | _=>st
 | .cel b j n e c => if n = b then st else match st.b b with
  | some (.box e0 cells) => match cells[j]? with
   | some (.nil _)=>⟨fun t=>scr n (st.s t),fun b'=>if b' = b then some (.box e0 ((cells.map (scr0 n)).set j (.row n))) else if b' = n then some (.row e c []) else (st.b b').map (scrB n)⟩
   | some (.p (.v (.slice none 0 0)))=>⟨fun t=>scr n (st.s t),fun b'=>if b' = b then some (.box e0 ((cells.map (scr0 n)).set j (.row n))) else if b' = n then some (.row e c []) else (st.b b').map (scrB n)⟩
   | _=>st
  | _=>st
def frzL (st : St) : List Gh -> St
 | []=>st
 | g :: r=>frzL (gh1 st g) r
def cat {α : Type} (mv : Bool) (a c : List α) : List α := match mv with
 | true=>c ++ a
 | false=>a ++ c
def catT (mv : Bool) (cs : List V) (ts : List TypeId) : List TypeId := match mv with
 | true=>cs.map (fun _=>0) ++ ts
 | false=>ts
theorem run_enterC {g : FuncId} (hg : Enters P g) {mv : Bool} {cs : List Value} {o : Oper} {f : Operand} {as : Array Operand} {ts : Array TypeId} (ho : o.op = .call { callee := .value f, args := as, argTypes := ts }) (hf : a.eval f = fnv ⟨g, mv⟩ cs) :
 (execOp a.eval o).run P w = .ok (.enter g (cat mv (as.toList.map a.eval) cs).toArray) w:=by
 obtain ⟨fn,h1,h2,h3⟩:=hg
 have h2' : ¬ fn.name = "runtime.NumGoroutine" := by simpa using h2
 have h3' : ¬ fn.body = none:=by intro h0;rw [h0] at h3;simp at h3
 cases mv with
 | false =>
  simp only [execOp,ho,resolve,hf,fnv,Deferred.ofValue,cat]
  have he : (as.toList.map a.eval ++ cs).toArray = as.map a.eval ++ cs.toArray := by
   apply Array.ext'
   simp
  rw [he]
  simp [invoke,callFunc,h1,h2',h3']
 | true =>
  simp only [execOp,ho,resolve,hf,fnv,Deferred.ofValue,cat]
  have he : (cs ++ as.toList.map a.eval).toArray = cs.toArray ++ as.map a.eval := by
   apply Array.ext'
   simp
  rw [he]
  simp [invoke,callFunc,h1,h2',h3']
theorem yP [Glob] {g : FuncId} {mv : Bool} {cs : List Value} {o : Oper} {f : Operand} {as : Array Operand} {ts : Array TypeId} (ho : o.op = .call { callee := .value f, args := as, argTypes := ts }) (hf : a.eval f = fnv ⟨g, mv⟩ cs)
 {R : Ending -> World -> Prop} (hc : CallX P g (cat mv (as.toList.map a.eval) cs).toArray w R) {K : Act -> World -> Prop} {Q : Exit -> Act -> World -> Prop}
 (hK : ∀ e w',R e w' -> (∃ x,e = .returned x /\ K (a.put o.dst x) w') \/ (∃ y,e = .panicked [{ v:=y,recovered:=false }] /\ Q (.panic [{ v:=y,recovered:=false }]) a w')) : o.wp P a w K Q:=by
 unfold Oper.wp
 rcases hc with ⟨hg,hc⟩ | ⟨x,w',hrun,hr⟩
 ·rw [run_enterC hg ho hf]
  refine hc.mono fun e w' hr=>?_
  rcases hK e w' hr with ⟨x,rfl,hk⟩ | ⟨y,rfl,hk⟩
  ·exact hk
  ·exact hk
 ·have : (execOp a.eval o).run P w = .ok (.value x) w' := by
   cases mv with
   | false =>
    have he : (as.toList.map a.eval ++ cs).toArray = as.map a.eval ++ cs.toArray := by
     apply Array.ext'
     simp
    simp only [cat] at hrun
    rw [he] at hrun
    simp only [execOp,ho,resolve,hf,fnv,Deferred.ofValue]
    simp [invoke,hrun]
   | true =>
    have he : (cs ++ as.toList.map a.eval).toArray = cs.toArray ++ as.map a.eval := by
     apply Array.ext'
     simp
    simp only [cat] at hrun
    rw [he] at hrun
    simp only [execOp,ho,resolve,hf,fnv,Deferred.ofValue]
    simp [invoke,hrun]
  rw [this]
  rcases hK _ _ hr with ⟨x',h1,hk⟩ | ⟨y,h1,hk⟩
  ·simp only [Ending.returned.injEq] at h1
   subst h1;exact hk
  ·simp at h1
end
end Go.Av
