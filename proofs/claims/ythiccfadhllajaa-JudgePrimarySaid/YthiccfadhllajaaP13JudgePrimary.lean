/- Texts that the proof needs: AvSimp. -/
import Derived.Test.YthiccfadhllajaaP12JudgePrimary
namespace Go.Av
set_option linter.unusedSimpArgs false
set_option linter.unusedVariables false
open Go
theorem putS_some (s : Nat -> V) (d : Nat) (v : V) (t : Nat) : putS s (some d) v t = if t = d then v else s t := rfl
theorem putS_none (s : Nat -> V) (v : V) : putS s none v = s := rfl
theorem initS_s (args : List V) (β : List Blk) (t : Nat) : (initS args β).s t = match args[t]? with
 | some v => v
 | none => .tup [] := rfl
theorem initS_b (args : List V) (β : List Blk) (t : Nat) : (initS args β).b t = if t < 1024 then none else if t < 2048 then β[t - 1024]? else none := by
 simp [initS, nmF]
theorem crt_s (st : St) (nm d : Nat) (blk : Blk) (v : V) (t : Nat) : (crt st nm d blk v).s t = if t = d then v else scr nm (st.s t) := rfl
theorem crt_b (st : St) (nm d : Nat) (blk : Blk) (v : V) (b : Nat) : (crt st nm d blk v).b b = if b = nm then some blk else (st.b b).map (scrB nm) := rfl
theorem frzx_s (st : St) (b : Nat) (es : List PV) (t : Nat) : (Av.frzx st b es).s t = subx b es (st.s t) := rfl
theorem frzx_b (st : St) (b : Nat) (es : List PV) (b' : Nat) : (Av.frzx st b es).b b' = if b' = b then none else (st.b b').map (subxB b es) := rfl
theorem frz_s (st : St) (b c : Nat) (l : List (List PV)) (t : Nat) : (Av.frz st b c l).s t = sub b (.sl c l) (st.s t) := rfl
theorem frz_b (st : St) (b c : Nat) (l : List (List PV)) (b' : Nat) : (Av.frz st b c l).b b' = if b' = b then none else (st.b b').map (subB b (.sl c l)) := rfl
theorem thenA_n (K : St -> Prop) (Q : AExit -> St -> Prop) (st : St) : thenA K Q .normal st = K st := rfl
theorem thenA_r (K : St -> Prop) (Q : AExit -> St -> Prop) (st : St) : thenA K Q .ret st = Q .ret st := rfl
theorem thenA_e (K : St -> Prop) (Q : AExit -> St -> Prop) (i : Nat) (st : St) : thenA K Q (.exit i) st = Q (.exit i) st := rfl
theorem thenA_p (K : St -> Prop) (Q : AExit -> St -> Prop) (y : Value) (st : St) : thenA K Q (.pan y) st = Q (.pan y) st := rfl
theorem blockA_p (id : Nat) (Q : AExit -> St -> Prop) (y : Value) (st : St) : blockA id Q (.pan y) st = Q (.pan y) st := rfl
theorem blockA_n (id : Nat) (Q : AExit -> St -> Prop) (st : St) : blockA id Q .normal st = Q .normal st := rfl
theorem blockA_r (id : Nat) (Q : AExit -> St -> Prop) (st : St) : blockA id Q .ret st = Q .ret st := rfl
theorem blockA_e (id i : Nat) (Q : AExit -> St -> Prop) (st : St) : blockA id Q (.exit i) st = if i = id then Q .normal st else Q (.exit i) st := rfl
attribute [simp] putS_some putS_none initS_s initS_b crt_s crt_b frz_s frz_b frzx_s frzx_b thenA_n thenA_r thenA_e thenA_p blockA_n blockA_r blockA_e blockA_p
attribute [simp] MapK MkK alk zpv kfit fitK PV.one stepA stepQ evV acvS isScal bytesL_len AppE evO dstOK dOK fix scal ld ldV ldP toP toPs V.one flatV abin ibin ishift sbin isShift aggE sVals fitsB fitsSB ceq veq aun afld afield aidx aindex aext alen bnd aslice rsl acv amm abi bld bldS evParts placesT fillP fillF partF evPartsF flatP allLen evMake evAlloc evBox evStore ClrK CutK CpyK dstC stB scr scr0 scrB V.live AppK srcL argsP argP argsB argB argR argsR flatC flatBx ecs Kd.isAgg resP resV resL tupV gaN pos sub sub0 subB subx subx0 subxB plC chunksR subF toPF toF toFs Fc.v Fc.isR resF resFs nilK slL frzL gh1 Lit1 flatL cat catT calleeOf capV capOf capsOf aif anc Cap.isB renC renCs renF renFs ren0 renB
theorem awpC_cond_eq [Glob] (P : Program) (T : TypeId -> Option Ty) (N : Nat) (c : Operand) (x y : Code) (Q : AExit -> St -> Prop) (st : St) : awpC P T N (.cond c x y) Q st = match evO st c with
 | .p (.v (.bool b)) => (b = true -> awpC P T N x Q st) /\ (b = false -> awpC P T N y Q st)
 | _ => False := by rw [awpC]; rfl
theorem RP.len [Glob] {w : World} {G : Nat -> Prop} {c : Nat} {l : List (List PV)} {x : Value} (h : RP w G (.sl c l) x) : l.length <= 9223372036854775807 := by
 rcases h.slI with ⟨-, -, rfl⟩ | ⟨k, off, cap, -, h1, h2, -⟩
 ·simp
 ·unfold maxLen at h2; omega
theorem ACon.len [Glob] {P : Program} {f : FuncId} {args : List V} {β : List Blk} {out : Out} (_he : Enters P f) (i c : Nat) (l : List (List PV)) (hi : args[i]? = some (.p (.sl c l))) (h : l.length <= 9223372036854775807 -> Con P f args β out) : Con P f args β out :=
 fun F w m xs hp hl har => by
  obtain ⟨x, -, hr⟩ := har i _ hi
  exact (h (RP.len hr)) F w m xs hp hl har
theorem ACon.lenA [Glob] {P : Program} {f : FuncId} {args : List V} {β : List Blk} {out : Out} (_he : Enters P f) (i j c : Nat) (l : List (List PV)) (ps : List PV) (hi : args[i]? = some (.p (.agg ps))) (hj : ps[j]? = some (.sl c l)) (h : l.length <= 9223372036854775807 -> Con P f args β out) : Con P f args β out :=
 fun F w m xs hp hl har => by
  obtain ⟨x, -, hr⟩ := har i _ hi
  refine (h ?_) F w m xs hp hl har
  have hr' : RP w _ (.agg ps) x := hr
  cases hr' with
  | agg _ cs u hs hone hcell hr0 => exact RP.len (hr0 j _ hj)
theorem wrap_id {k : Int} (h0 : -9223372036854775808 <= k) (h1 : k <= 9223372036854775807) : IntKind.i64.wrap k = k := by
 rw [IntKind.wrap_i64]; omega
abbrev I (n : Int) : PV := .v (.int .i64 n)
abbrev B (b : Bool) : PV := .v (.bool b)
abbrev S (s : ByteArray) : PV := .v (.string s)
theorem awpC_drwA [Glob] {P : Program} {T : TypeId -> Option Ty} {N : Nat} {id : Nat} {ops : Array Oper} {Q : AExit -> St -> Prop} {st : St} (hok : drawOK ops ops.size = true) (h : awpQ P T N ops ops.toList st (Q .normal)) : awpC P T N (.region id ops true) Q st := by
 refine .inl ⟨ops.size, [], hok, ?_⟩
 rw [List.take_of_length_le (by simp), List.drop_of_length_le (by simp)]
 exact h
section
variable {P : Program} {T : TypeId -> Option Ty} {N : Nat} {ops : Array Oper} {o : Oper} {rest : List Oper} {st : St}
theorem awpOps_step [Glob] {K : St -> Prop} {Z : Value -> St -> Prop} (h : ∀ K' : St -> Prop, (∀ st', awpOps P T N ops rest st' K Z -> K' st') →
 match wantedA ops st o with
 | none => False
 | some q => (q = true -> stepA P T N st o K' Z) /\ (q = false -> dstOK N o.dst /\ K' ⟨putS st.s o.dst (.tup []), st.b⟩)) : awpOps P T N ops (o :: rest) st K Z :=
 ⟨[], .inl (h (fun st' => awpOps P T N ops rest st' K Z) (fun _ h => h))⟩
theorem awpQ_step [Glob] {K : St -> Prop} (h : ∀ K' : V -> Prop, (∀ v, awpQ P T N ops rest ⟨putS st.s o.dst v, st.b⟩ K -> K' v) →
 match wantedA ops st o with
 | none => False
 | some q => (q = true -> stepQ P T N st o K') /\ (q = false -> dstOK N o.dst /\ K' (.tup []))) : awpQ P T N ops (o :: rest) st K :=
 h (fun v => awpQ P T N ops rest ⟨putS st.s o.dst v, st.b⟩ K) (fun _ h => h)
end
def CallE [Glob] (P : Program) (st : St) (d : Option Nat) (g : FuncId) (u ub : Option (List V)) (X : Prop) (K : St -> Prop) (Z : Value -> St -> Prop) : Prop :=
 (∃ us v, u = some us /\ ACon P g us v /\ pureV v = true /\ K ⟨putS st.s d v, st.b⟩) ∨
 (∃ us d' e c l, (u = some us \/ ub = some us /\ flatL l = true) /\ d = some d' /\ Con P g us [] (.ret (.row 2048) [.row e c l] []) /\ K (crt st d' d' (.row e c l) (.row d'))) ∨
 (∃ us v, ub = some us /\ ACon P g us v /\ flatR v = true /\ K ⟨putS st.s d v, st.b⟩) ∨
 (∃ us y, ub = some us /\ Con P g us [] (.pan y []) /\ Z y st) \/ X
theorem CallK_plain [Glob] {P : Program} {T : TypeId -> Option Ty} {st : St} {d : Option Nat} {g : FuncId} {ts : List TypeId} {as : List V} {K : St -> Prop} {Z : Value -> St -> Prop} (h : CallE P st d g (argsP T ts as) (argsB T st ts as) False K Z) : CallK P T st d g ts as K Z := by
 rcases h with h | h | h | h | h
 ·exact .inl h
 ·exact .inr (.inl h)
 ·exact .inr (.inr (.inl h))
 ·exact .inr (.inr (.inr (.inl h)))
 ·exact h.elim
theorem CallK_gen [Glob] {P : Program} {T : TypeId -> Option Ty} {st : St} {d : Option Nat} {g : FuncId} {ts : List TypeId} {as : List V} {K : St -> Prop} {Z : Value -> St -> Prop} (S : List Nat) {us : List V} {β : List Blk} {out : Out} (hc : Con P g us β out) (hS : S.Nodup) (hSl : S.length <= 1024)
 (hβ : blksOf st (inN S) S = some β) (hus : argsG T S ts as = some us) (hk : GenK st d S K Z out) : CallK P T st d g ts as K Z :=
 .inr (.inr (.inr (.inr (.inl ⟨S, us, β, out, hS, hSl, hβ, hus, hc, hk⟩))))
theorem CallK_inpl [Glob] {P : Program} {T : TypeId -> Option Ty} {st : St} {d : Option Nat} {g : FuncId} {ts : List TypeId} {as : List V} {K : St -> Prop} {Z : Value -> St -> Prop} (b : Nat) {us : List V} {e c : Nat} {l0 l1 : List (List PV)} {v : V} (hc : ConW P g us e c l0 l1 v)
 (hb : st.b b = some (.row e c l0)) (hus : argsG T [b] ts as = some us) (hfl : flatW v = true) (hk : K ⟨putS st.s d v, fun b' => if b' = b then some (.row e c l1) else st.b b'⟩) : CallK P T st d g ts as K Z :=
 .inr (.inr (.inr (.inr (.inr (.inr (.inr (.inl ⟨b, us, e, c, l0, l1, v, hb, hus, hc, hfl, hk⟩)))))))
section
variable {P : Program} {st : St} {g : FuncId} {us : List V} {u ub : Option (List V)} {X : Prop} {K : St -> Prop} {Z : Value -> St -> Prop}
theorem CallE.pure [Glob] {d : Option Nat} {v : V} (hc : ACon P g us v) (hp : pureV v = true) (hk : K ⟨putS st.s d v, st.b⟩) : CallE P st d g (some us) ub X K Z :=
 .inl ⟨us, v, rfl, hc, hp, hk⟩
theorem CallE.own [Glob] {d : Nat} {e c : Nat} {l : List (List PV)} (hc : Con P g us [] (.ret (.row 2048) [.row e c l] [])) (hk : K (crt st d d (.row e c l) (.row d))) : CallE P st (some d) g (some us) ub X K Z :=
 .inr (.inl ⟨us, d, e, c, l, .inl rfl, rfl, hc, hk⟩)
theorem CallE.lent [Glob] {d : Option Nat} {v : V} (hc : ACon P g us v) (hp : flatR v = true) (hk : K ⟨putS st.s d v, st.b⟩) : CallE P st d g u (some us) X K Z :=
 .inr (.inr (.inl ⟨us, v, rfl, hc, hp, hk⟩))
theorem CallE.pan [Glob] {d : Option Nat} {y : Value} (hc : Con P g us [] (.pan y [])) (hk : Z y st) : CallE P st d g u (some us) X K Z :=
 .inr (.inr (.inr (.inl ⟨us, y, rfl, hc, hk⟩)))
end
def CallF [Glob] (P : Program) (g : FuncId) (u ub : Option (List V)) (K : V -> Prop) : Prop :=
 (∃ us v, u = some us /\ ACon P g us v /\ pureV v = true /\ K v) \/ (∃ us v, ub = some us /\ ACon P g us v /\ flatR v = true /\ K v)
theorem CallQ_plain [Glob] {P : Program} {T : TypeId -> Option Ty} {st : St} {g : FuncId} {ts : List TypeId} {as : List V} {K : V -> Prop} (h : CallF P g (argsP T ts as) (argsB T st ts as) K) : CallQ P T st g ts as K := .inl h
theorem CallF.pure [Glob] {P : Program} {g : FuncId} {us : List V} {ub : Option (List V)} {v : V} {K : V -> Prop} (hc : ACon P g us v) (hp : pureV v = true) (hk : K v) : CallF P g (some us) ub K := .inl ⟨us, v, rfl, hc, hp, hk⟩
theorem CallF.lent [Glob] {P : Program} {g : FuncId} {us : List V} {u : Option (List V)} {v : V} {K : V -> Prop} (hc : ACon P g us v) (hp : flatR v = true) (hk : K v) : CallF P g u (some us) K := .inr ⟨us, v, rfl, hc, hp, hk⟩
def mkO (d : Option Nat) : Oper := ⟨d, .ready 0, 0, "", #[], none⟩
def gd (ds : List (Option Nat)) : Array Oper := (ds.map mkO).toArray
def strip (o : Oper) : Oper := ⟨o.dst, o.op, o.type, "", #[], o.guard⟩
theorem gd_get (ds : List (Option Nat)) (j : Nat) : ((gd ds)[j]?).bind (·.dst) = (ds[j]?).bind id := by
 simp only [gd, List.getElem?_toArray, List.getElem?_map]
 cases ds[j]? <;> rfl
theorem wantedA_gd [Glob] (ops : Array Oper) (st : St) (o : Oper) : wantedA (gd (ops.toList.map (·.dst))) st (strip o) = wantedA ops st o := by
 unfold wantedA
 simp only [strip]
 split
 ·rfl
 ·rename_i j want hg
  rw [gd_get, List.getElem?_map]
  have : (ops.toList[j]?) = ops[j]? := by simp
  rw [this]
  cases ops[j]? <;> rfl
theorem stepA_strip [Glob] (P : Program) (T : TypeId -> Option Ty) (N : Nat) (st : St) (o : Oper) (K : St -> Prop) (Z : Value -> St -> Prop) : stepA P T N st (strip o) K Z = stepA P T N st o K Z := rfl
theorem stepQ_strip [Glob] (P : Program) (T : TypeId -> Option Ty) (N : Nat) (st : St) (o : Oper) (K : V -> Prop) : stepQ P T N st (strip o) K = stepQ P T N st o K := rfl
theorem awpOps_strip [Glob] (P : Program) (T : TypeId -> Option Ty) (N : Nat) (ops : Array Oper) (K : St -> Prop) (Z : Value -> St -> Prop) : ∀ (l : List Oper) (st : St), awpOps P T N (gd (ops.toList.map (·.dst))) (l.map strip) st K Z = awpOps P T N ops l st K Z
 | [], st => rfl
 | o :: l, st => by
  simp only [List.map_cons, awpOps, wantedA_gd, stepA_strip]
  have h1 : (fun st' => awpOps P T N (gd (ops.toList.map (·.dst))) (l.map strip) st' K Z) = fun st' => awpOps P T N ops l st' K Z := funext fun st' => awpOps_strip P T N ops K Z l st'
  simp only [h1]
  have h2 : ∀ (st : St) v, awpOps P T N (gd (ops.toList.map (·.dst))) (l.map strip) ⟨putS st.s (strip o).dst v, st.b⟩ K Z = awpOps P T N ops l ⟨putS st.s o.dst v, st.b⟩ K Z := fun st v => awpOps_strip P T N ops K Z l _
  simp only [h2]
  rfl
theorem awpQ_strip [Glob] (P : Program) (T : TypeId -> Option Ty) (N : Nat) (ops : Array Oper) (K : St -> Prop) : ∀ (l : List Oper) (st : St), awpQ P T N (gd (ops.toList.map (·.dst))) (l.map strip) st K = awpQ P T N ops l st K
 | [], st => rfl
 | o :: l, st => by
  simp only [List.map_cons, awpQ, wantedA_gd, stepQ_strip]
  have h2 : ∀ v, awpQ P T N (gd (ops.toList.map (·.dst))) (l.map strip) ⟨putS st.s (strip o).dst v, st.b⟩ K = awpQ P T N ops l ⟨putS st.s o.dst v, st.b⟩ K := fun v => awpQ_strip P T N ops K l _
  simp only [h2]
  rfl
theorem awpC_reg2 [Glob] {P : Program} {T : TypeId -> Option Ty} {N : Nat} {id : Nat} {l : List Oper} {Q : AExit -> St -> Prop} {st : St} (h : awpOps P T N (gd (l.map (·.dst))) (l.map strip) st (Q .normal) (fun y => Q (.pan y))) : awpC P T N (.region id l.toArray false) Q st := by
 refine awpC_reg ?_
 have := awpOps_strip P T N l.toArray (Q .normal) (fun y => Q (.pan y)) l st
 rw [<- this]; exact h
theorem awpC_drw2 [Glob] {P : Program} {T : TypeId -> Option Ty} {N : Nat} {id : Nat} {l : List Oper} {Q : AExit -> St -> Prop} {st : St} (hok : drawOK l.toArray l.toArray.size = true) (h : awpQ P T N (gd (l.map (·.dst))) (l.map strip) st (Q .normal)) : awpC P T N (.region id l.toArray true) Q st := by
 refine awpC_drwA hok ?_
 have := awpQ_strip P T N l.toArray (Q .normal) l st
 rw [<- this]; exact h
theorem wantedA_gd' [Glob] (ds : List (Option Nat)) (st : St) (o : Oper) : wantedA (gd ds) st o = match o.guard with
 | none => some true
 | some (j, want) => match (ds[j]?).bind id with
  | none => none
  | some d => match st.s d with
   | .p (.v (.bool b)) => some (b == want)
   | .tup [] => some false
   | _ => none := by
 unfold wantedA
 cases o.guard with
 | none => rfl
 | some g => simp only [gd_get]; rfl
attribute [simp] wantedA_gd'
structure WC [Glob] (P : Program) (T : TypeId -> Option Ty) (N : Nat) (c : Code) (Q : AExit -> St -> Prop) (st : St) : Prop where
 h : awpC P T N c Q st
structure WO [Glob] (P : Program) (T : TypeId -> Option Ty) (N : Nat) (ops : Array Oper) (l : List Oper) (st : St) (K : St -> Prop) (Z : Value -> St -> Prop) : Prop where
 h : awpOps P T N ops l st K Z
structure WQ [Glob] (P : Program) (T : TypeId -> Option Ty) (N : Nat) (ops : Array Oper) (l : List Oper) (st : St) (K : St -> Prop) : Prop where
 h : awpQ P T N ops l st K
section
variable {P : Program} {T : TypeId -> Option Ty} {N : Nat} {Q : AExit -> St -> Prop} {st : St}
theorem wSeq [Glob] {x y : Code} (h : ∀ K : St -> Prop, (∀ st', WC P T N y Q st' -> K st') -> WC P T N x (thenA K Q) st) : WC P T N (.seq x y) Q st :=
 ⟨awpC_seq_k fun K hK => (h K fun st' hw => hK st' hw.h).h⟩
theorem wReg [Glob] {id : Nat} {l : List Oper} (h : WO P T N (gd (l.map (·.dst))) (l.map strip) st (Q .normal) (fun y => Q (.pan y))) : WC P T N (.region id l.toArray false) Q st := ⟨awpC_reg2 h.h⟩
theorem wDrw [Glob] {id : Nat} {l : List Oper} (hok : drawOK l.toArray l.toArray.size = true) (h : WQ P T N (gd (l.map (·.dst))) (l.map strip) st (Q .normal)) : WC P T N (.region id l.toArray true) Q st := ⟨awpC_drw2 hok h.h⟩
theorem wCond [Glob] {c : Operand} {x y : Code} (h : match evO st c with
 | .p (.v (.bool b)) => (b = true -> WC P T N x Q st) /\ (b = false -> WC P T N y Q st)
 | _ => False) : WC P T N (.cond c x y) Q st := by
 refine ⟨?_⟩
 rw [awpC_cond_eq]
 split at h
 ·exact ⟨fun hb => (h.1 hb).h, fun hb => (h.2 hb).h⟩
 ·exact h
theorem wRet [Glob] (h : Q .ret st) : WC P T N .ret Q st := ⟨[], h⟩
theorem wRetG [Glob] (gs : List Gh) (h : Q .ret (frzL st gs)) : WC P T N .ret Q st := ⟨gs, h⟩
theorem wExit [Glob] {id : Nat} (h : Q (.exit id) st) : WC P T N (.exit id) Q st := ⟨h⟩
theorem wSkip [Glob] (h : Q .normal st) : WC P T N .skip Q st := ⟨h⟩
theorem wLabel [Glob] {l : Nat} (h : Q .normal st) : WC P T N (.label l) Q st := ⟨h⟩
theorem wScope [Glob] {x : Code} (h : WC P T N x Q st) : WC P T N (.scope x) Q st := ⟨h.h⟩
theorem wBlock [Glob] {id : Nat} {x : Code} (h : WC P T N x (blockA id Q) st) : WC P T N (.block id x) Q st := ⟨h.h⟩
theorem wLoop [Glob] {x : Code} (I : Nat -> St -> Prop) (n : Nat) (h0 : I n st) (h : ∀ (K : St -> Prop) n st', (∀ (s : St) n', n' < n -> I n' s -> K s) -> I n st' -> WC P T N x (thenA K Q) st') : WC P T N (.loop x) Q st :=
 ⟨awpC_loop [] I n h0 fun K n st' hk hi => (h K n st' hk hi).h⟩
theorem wLoopG [Glob] {x : Code} (gs : List Gh) (I : Nat -> St -> Prop) (n : Nat) (h0 : I n (frzL st gs)) (h : ∀ (K : St -> Prop) n st', (∀ (s : St) n', n' < n -> I n' s -> K s) -> I n st' -> WC P T N x (thenA K Q) st') : WC P T N (.loop x) Q st :=
 ⟨awpC_loop gs I n h0 fun K n st' hk hi => (h K n st' hk hi).h⟩
variable {ops : Array Oper} {o : Oper} {rest : List Oper}
theorem wOn [Glob] {K : St -> Prop} {Z : Value -> St -> Prop} (h : K st) : WO P T N ops [] st K Z := ⟨h⟩
def litB (o : Oper) : Bool := match o.op with
 | .buildSlice _ n parts => Nat.ble 2 n && parts.toList.all fun p => match p.2 with
  | .const _ => true
  | _ => false
 | .convert s t _ => Nat.beq s t
 | _ => false
theorem wOs [Glob] {K : St -> Prop} {Z : Value -> St -> Prop} (h : ∀ K' : St -> Prop, (∀ st', WO P T N ops rest st' K Z -> K' st') →
 match wantedA ops st o with
 | none => False
 | some q => (q = true -> stepA P T N st o K' Z) /\ (q = false -> dstOK N o.dst /\ K' ⟨putS st.s o.dst (.tup []), st.b⟩)) : WO P T N ops (o :: rest) st K Z :=
 ⟨awpOps_step fun K' hK => h K' fun st' hw => hK st' hw.h⟩
theorem wFrz [Glob] (bs : List Gh) {K : St -> Prop} {Z : Value -> St -> Prop} (h : WO P T N ops (o :: rest) (frzL st bs) K Z) : WO P T N ops (o :: rest) st K Z := by
 obtain ⟨bs', h⟩ := h.h
 refine ⟨⟨bs ++ bs', ?_⟩⟩
 rw [frzL_append]; exact h
structure WT [Glob] (P : Program) (T : TypeId -> Option Ty) (N : Nat) (l : List Oper) (K : St -> Prop) (Z : Value -> St -> Prop) (h : Nat) (listed : Array Bool) (st : St) : Prop where
 h : awpTree P T N l.toArray K Z h listed st
theorem wQn [Glob] {K : St -> Prop} (h : K st) : WQ P T N ops [] st K := ⟨h⟩
theorem wQs [Glob] {K : St -> Prop} (h : ∀ K' : V -> Prop, (∀ v, WQ P T N ops rest ⟨putS st.s o.dst v, st.b⟩ K -> K' v) →
 match wantedA ops st o with
 | none => False
 | some q => (q = true -> stepQ P T N st o K') /\ (q = false -> dstOK N o.dst /\ K' (.tup []))) : WQ P T N ops (o :: rest) st K :=
 ⟨awpQ_step fun K' hK => h K' fun v hw => hK v hw.h⟩
end
theorem ARes.pure {T : TypeId -> Option Ty} {st : St} {rs : List ResultVar} {ts : List TypeId} {v : V} (h : ∃ l, resL T st (gaN []) rs ts = some l /\ v = tupV l) : ARes T st rs ts (.ret v [] []) :=
 ⟨[], List.nodup_nil, fun n hn => by simp at hn, trivial, trivial, by simp, h⟩
theorem ARes.row {T : TypeId -> Option Ty} {st : St} {t b e c : Nat} {l : List (List PV)} {ts : List TypeId} (hs : st.s t = .row b) (hb : st.b b = some (.row e c l)) (hlt : b < 1024) : ARes T st [.tmp t] ts (.ret (.row 2048) [.row e c l] []) := by
 refine ⟨[b], by simp, fun n hn => by simp at hn; omega, ⟨⟨_, hb, rfl⟩, trivial⟩, trivial, by simp, [.row 2048], ?_, rfl⟩
 have : gaN [b] b = some 2048 := by simp [gaN, pos]; omega
 simp only [resL, hs, resV, this]
theorem wBody [Glob] {P : Program} {T : TypeId -> Option Ty} (hT : TabOK P T) (hm : P.follows .mixedOrders = true) {f : FuncId} {fn : Func} {body : Code} (hf : P.funcs[f]? = some fn) (hname : (fn.name == "runtime.NumGoroutine") = false) (hb : fn.body = some body) {N : Nat} (hN' : fn.ntmps = N) {args : List V} {v : V}
 (hN : args.length <= N) (hN2 : N <= 1024) (h : ∀ Q : AExit -> St -> Prop, (∀ st, (∃ l, resL T st (gaN []) fn.results.toList fn.resultTypes.toList = some l /\ v = tupV l) -> Q .ret st) -> (∀ st, (∃ l, resL T st (gaN []) fn.results.toList fn.resultTypes.toList = some l /\ v = tupV l) -> Q .normal st) -> WC P T N body Q (initS args [])) : ACon P f args v :=
 ACon.of_body' hT hm hf hname hb hN' hN hN2 fun Q h1 h2 _ => (h Q (fun st hs => h1 st (.pure hs)) (fun st hs => h2 st (.pure hs))).h
theorem wBodyR [Glob] {P : Program} {T : TypeId -> Option Ty} (hT : TabOK P T) (hm : P.follows .mixedOrders = true) {f : FuncId} {fn : Func} {body : Code} (hf : P.funcs[f]? = some fn) (hname : (fn.name == "runtime.NumGoroutine") = false) (hb : fn.body = some body) {N : Nat} (hN' : fn.ntmps = N) {args : List V} {t : Nat} (hrs : fn.results.toList = [.tmp t]) {e c : Nat} {l : List (List PV)}
 (hN : args.length <= N) (hN2 : N <= 1024) (h : ∀ Q : AExit -> St -> Prop, (∀ st b, st.s t = .row b -> st.b b = some (.row e c l) -> b < 1024 -> Q .ret st) -> (∀ st b, st.s t = .row b -> st.b b = some (.row e c l) -> b < 1024 -> Q .normal st) -> WC P T N body Q (initS args [])) : Con P f args [] (.ret (.row 2048) [.row e c l] []) :=
 ACon.of_body' hT hm hf hname hb hN' hN hN2 fun Q h1 h2 _ => (h Q (fun st b hs hb' hlt => h1 st (by rw [hrs]; exact .row hs hb' hlt)) (fun st b hs hb' hlt => h2 st (by rw [hrs]; exact .row hs hb' hlt))).h
theorem wBodyG [Glob] {P : Program} {T : TypeId -> Option Ty} (hT : TabOK P T) (hm : P.follows .mixedOrders = true) {f : FuncId} {fn : Func} {body : Code} (hf : P.funcs[f]? = some fn) (hname : (fn.name == "runtime.NumGoroutine") = false) (hb : fn.body = some body) {N : Nat} (hN' : fn.ntmps = N) {args : List V} {β : List Blk} {out : Out}
 (hN : args.length <= N) (hN2 : N <= 1024) (h : ∀ Q : AExit -> St -> Prop, (∀ st, ARes T st fn.results.toList fn.resultTypes.toList out -> Q .ret st) -> (∀ st, ARes T st fn.results.toList fn.resultTypes.toList out -> Q .normal st) -> (∀ y st, AResP st y out -> Q (.pan y) st) -> WC P T N body Q (initS args β)) : Con P f args β out :=
 ACon.of_body' hT hm hf hname hb hN' hN hN2 fun Q h1 h2 h3 => (h Q h1 h2 h3).h
theorem wBodyW [Glob] {P : Program} {T : TypeId -> Option Ty} (hT : TabOK P T) (hm : P.follows .mixedOrders = true) {f : FuncId} {fn : Func} {body : Code} (hf : P.funcs[f]? = some fn) (hname : (fn.name == "runtime.NumGoroutine") = false) (hb : fn.body = some body) {n : Nat} (hN' : fn.ntmps = n) {args : List V} {e c : Nat} {l0 l1 : List (List PV)} {v : V}
 (hN : args.length <= n) (hN2 : n <= 1024) (h0 : args[0]? = some (.row 1024)) (hfl : flatW v = true) (h : ∀ Q : AExit -> St -> Prop, (∀ st, ARes T st fn.results.toList fn.resultTypes.toList (.ret v [] [.row e c l1]) -> st.s 0 = .row 1024 -> st.b 1024 = some (.row e c l1) -> Q .ret st) -> (∀ st, ARes T st fn.results.toList fn.resultTypes.toList (.ret v [] [.row e c l1]) -> st.s 0 = .row 1024 -> st.b 1024 = some (.row e c l1) -> Q .normal st) -> WC P T (n + 4096) body Q (initS args [.row e c l0])) : ConW P f args e c l0 l1 v := by
 subst hN'
 exact ConW.of_body hT hm hf hname hb hN hN2 h0 hfl (h _ (fun _ h1 h2 h3 => ⟨h1, h2, h3⟩) (fun _ h1 h2 h3 => ⟨h1, h2, h3⟩)).h
def loopsOf : Code -> List Code
 | .seq x y => loopsOf x ++ loopsOf y
 | .cond _ x y => loopsOf x ++ loopsOf y
 | .block _ x => loopsOf x
 | .scope x => loopsOf x
 | .loop x => .loop x :: loopsOf x
 | _ => []
def lp (fn : Func) (n : Nat) : Code := match fn.body with
 | some b => (loopsOf b).getD n .skip
 | none => .skip
end Go.Av
namespace Go.Av
open Go
end Go.Av
