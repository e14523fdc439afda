/- Texts that the proof needs: AvSimp. -/
import Derived.Test.YtffflakmofbilaaGreatP11LeadOrder
namespace Go.Av
open Go
theorem putS_some (s : Nat -> V) (d : Nat) (v : V) (t : Nat) : xT s (some d) v t = if t = d then v else s t := rfl
theorem putS_none (s : Nat -> V) (v : V) : xT s none v = s := rfl
theorem initS_s (args : List V) (β : List Blk) (t : Nat) : (initS args β).s t = match args[t]? with
 | some v=>v
 | none=>.tup []:=rfl
theorem initS_b (args : List V) (β : List Blk) (t : Nat) : (initS args β).b t = if t < 1024 then none else if t < 2048 then β[t - 1024]? else none := by
 simp [initS,nmF]
theorem crt_s (st : St) (nm d : Nat) (blk : Blk) (v : V) (t : Nat) : (crt st nm d blk v).s t = if t = d then v else scr nm (st.s t) := rfl
theorem crt_b (st : St) (nm d : Nat) (blk : Blk) (v : V) (b : Nat) : (crt st nm d blk v).b b = if b = nm then some blk else (st.b b).map (wU nm) := rfl
theorem frzx_s (st : St) (b : Nat) (es : List PV) (t : Nat) : (Av.frzx st b es).s t = subx b es (st.s t) := rfl
theorem frzx_b (st : St) (b : Nat) (es : List PV) (b' : Nat) : (Av.frzx st b es).b b' = if b' = b then none else (st.b b').map (subxB b es) := rfl
theorem frz_s (st : St) (b c : Nat) (l : List (List PV)) (t : Nat) : (Av.frz st b c l).s t = sub b (.sl c l) (st.s t) := rfl
theorem frz_b (st : St) (b c : Nat) (l : List (List PV)) (b' : Nat) : (Av.frz st b c l).b b' = if b' = b then none else (st.b b').map (subB b (.sl c l)) := rfl
theorem zZ (K : St -> Prop) (Q : AExit -> St -> Prop) (st : St) : thenA K Q .normal st = K st := rfl
theorem thenA_r (K : St -> Prop) (Q : AExit -> St -> Prop) (st : St) : thenA K Q .ret st = Q .ret st := rfl
theorem thenA_e (K : St -> Prop) (Q : AExit -> St -> Prop) (i : Nat) (st : St) : thenA K Q (.exit i) st = Q (.exit i) st := rfl
theorem thenA_p (K : St -> Prop) (Q : AExit -> St -> Prop) (y : Value) (st : St) : thenA K Q (.pan y) st = Q (.pan y) st := rfl
theorem blockA_p (id : Nat) (Q : AExit -> St -> Prop) (y : Value) (st : St) : blockA id Q (.pan y) st = Q (.pan y) st := rfl
theorem blockA_n (id : Nat) (Q : AExit -> St -> Prop) (st : St) : blockA id Q .normal st = Q .normal st := rfl
theorem blockA_r (id : Nat) (Q : AExit -> St -> Prop) (st : St) : blockA id Q .ret st = Q .ret st := rfl
theorem blockA_e (id i : Nat) (Q : AExit -> St -> Prop) (st : St) : blockA id Q (.exit i) st = if i = id then Q .normal st else Q (.exit i) st := rfl
attribute [simp] putS_some putS_none initS_s initS_b crt_s crt_b frz_s frz_b frzx_s frzx_b zZ thenA_r thenA_e thenA_p blockA_n blockA_r blockA_e blockA_p
attribute [simp] PV.one stepA stepQ evV acvS isScal bytesL_len AppE evO wY dOK fix scal ld ldV ldP toP uL V.one flatV abin ibin ishift sbin isShift aggE sVals fitsB fitsSB ceq veq aun afld afield aidx aindex aext alen bnd aslice rsl acv amm abi bld bldS wW placesT fillP fillF partF xH vR allLen evMake evAlloc evBox evStore ClrK CutK CpyK dstC stB scr yR wU V.live AppK srcL argsP argP vG argB argR argsR flatC flatBx ecs Kd.isAgg resV resL tupV gaN pos sub xM subB subx subx0 subxB plC chunksR subF toPF toF toFs Fc.v Fc.isR resF resFs nilK slL uY gh1 Lit1 flatL cat catT wA capV capOf capsOf aif anc Cap.isB wS xY uJ xA zX zO
theorem awpC_cond_eq [Glob] (P : Program) (T : TypeId -> Option Ty) (N : Nat) (c : Operand) (x y : Code) (Q : AExit -> St -> Prop) (st : St) : vA P T N (.cond c x y) Q st = match evO st c with
 | .p (.v (.bool b))=>(b = true -> vA P T N x Q st) /\ (b = false -> vA P T N y Q st)
 | _=>False:=by rw [vA];rfl
theorem RP.len [Glob] {w : World} {G : Nat -> Prop} {c : Nat} {l : List (List PV)} {x : Value} (h : RP w G (.sl c l) x) : l.length <= 9223372036854775807 := by
 rcases h.slI with ⟨-,-,rfl⟩ | ⟨k,off,cap,-,h1,h2,-⟩
 ·simp
 ·unfold maxLen at h2;omega
theorem zB.len [Glob] {P : Program} {f : FuncId} {args : List V} {β : List Blk} {out : Out} (_he : Enters P f) (i c : Nat) (l : List (List PV)) (hi : args[i]? = some (.p (.sl c l))) (h : l.length <= 9223372036854775807 -> Con P f args β out) : Con P f args β out :=
 fun F w m xs hp hl har => by
  obtain ⟨x,-,hr⟩:=har i _ hi
  exact (h (RP.len hr)) F w m xs hp hl har
theorem zB.lenA [Glob] {P : Program} {f : FuncId} {args : List V} {β : List Blk} {out : Out} (_he : Enters P f) (i j c : Nat) (l : List (List PV)) (ps : List PV) (hi : args[i]? = some (.p (.agg ps))) (hj : ps[j]? = some (.sl c l)) (h : l.length <= 9223372036854775807 -> Con P f args β out) : Con P f args β out :=
 fun F w m xs hp hl har => by
  obtain ⟨x,-,hr⟩:=har i _ hi
  refine (h ?_) F w m xs hp hl har
  have hr' : RP w _ (.agg ps) x:=hr
  cases hr' with
  | agg _ cs u hs hone hcell hr0=>exact RP.len (hr0 j _ hj)
theorem yV {k : Int} (h0 : -9223372036854775808 <= k) (h1 : k <= 9223372036854775807) : IntKind.i64.wrap k = k := by
 rw [IntKind.wrap_i64];omega
abbrev I (n : Int) : PV := .v (.int .i64 n)
abbrev B (b : Bool) : PV := .v (.bool b)
abbrev S (s : ByteArray) : PV := .v (.string s)
theorem awpC_drwA [Glob] {P : Program} {T : TypeId -> Option Ty} {N : Nat} {id : Nat} {ops : Array Oper} {Q : AExit -> St -> Prop} {st : St} (hok : drawOK ops ops.size = true) (h : awpQ P T N ops ops.toList st (Q .normal)) : vA P T N (.region id ops true) Q st := by
 refine .inl ⟨ops.size,[],hok,?_⟩
 rw [List.take_of_length_le (by simp),List.drop_of_length_le (by simp)]
 exact h
section
variable {P : Program} {T : TypeId -> Option Ty} {N : Nat} {ops : Array Oper} {o : Oper} {rest : List Oper} {st : St}
theorem awpOps_step [Glob] {K : St -> Prop} {Z : Value -> St -> Prop} (h : ∀ K' : St -> Prop, (∀ st', xF P T N ops rest st' K Z -> K' st') →
 match yN ops st o with
 | none=>False
 | some q=>(q = true -> stepA P T N st o K' Z) /\ (q = false -> wY N o.dst /\ K' ⟨xT st.s o.dst (.tup []),st.b⟩)) : xF P T N ops (o :: rest) st K Z :=
 ⟨[],.inl (h (fun st'=>xF P T N ops rest st' K Z) (fun _ h=>h))⟩
theorem awpQ_step [Glob] {K : St -> Prop} (h : ∀ K' : V -> Prop, (∀ v, awpQ P T N ops rest ⟨xT st.s o.dst v, st.b⟩ K -> K' v) →
 match yN ops st o with
 | none=>False
 | some q=>(q = true -> stepQ P T N st o K') /\ (q = false -> wY N o.dst /\ K' (.tup []))) : awpQ P T N ops (o :: rest) st K :=
 h (fun v=>awpQ P T N ops rest ⟨xT st.s o.dst v,st.b⟩ K) (fun _ h=>h)
end
def zR [Glob] (P : Program) (st : St) (d : Option Nat) (g : FuncId) (u ub : Option (List V)) (X : Prop) (K : St -> Prop) (Z : Value -> St -> Prop) : Prop :=
 (∃ us v,u = some us /\ zB P g us v /\ pureV v = true /\ K ⟨xT st.s d v,st.b⟩) ∨
 (∃ us d' e c l,(u = some us \/ ub = some us /\ flatL l = true) /\ d = some d' /\ Con P g us [] (.ret (.row 2048) [.row e c l] []) /\ K (crt st d' d' (.row e c l) (.row d'))) ∨
 (∃ us v,ub = some us /\ zB P g us v /\ uE v = true /\ K ⟨xT st.s d v,st.b⟩) ∨
 (∃ us y,ub = some us /\ Con P g us [] (.pan y []) /\ Z y st) \/ X
theorem zY [Glob] {P : Program} {T : TypeId -> Option Ty} {st : St} {d : Option Nat} {g : FuncId} {ts : List TypeId} {as : List V} {K : St -> Prop} {Z : Value -> St -> Prop} (h : zR P st d g (argsP T ts as) (vG T st ts as) False K Z) : yA P T st d g ts as K Z := by
 rcases h with h | h | h | h | h
 ·exact .inl h
 ·exact .inr (.inl h)
 ·exact .inr (.inr (.inl h))
 ·exact .inr (.inr (.inr (.inl h)))
 ·exact h.elim
theorem zV [Glob] {P : Program} {T : TypeId -> Option Ty} {st : St} {d : Option Nat} {g : FuncId} {ts : List TypeId} {as : List V} {K : St -> Prop} {Z : Value -> St -> Prop} (S : List Nat) {us : List V} {β : List Blk} {out : Out} (hc : Con P g us β out) (hS : S.Nodup) (hSl : S.length <= 1024)
 (hβ : zQ st (inN S) S = some β) (hus : zN T S ts as = some us) (hk : GenK st d S K Z out) : yA P T st d g ts as K Z :=
 .inr (.inr (.inr (.inr (.inl ⟨S,us,β,out,hS,hSl,hβ,hus,hc,hk⟩))))
theorem uM [Glob] {P : Program} {T : TypeId -> Option Ty} {st : St} {d : Option Nat} {g : FuncId} {ts : List TypeId} {as : List V} {K : St -> Prop} {Z : Value -> St -> Prop} {us : List V} {v : V} (hc : zB P g us v) (hus : argsA T st ts as = some us) (hp : uE v = true) (hk : K ⟨xT st.s d v, st.b⟩) : yA P T st d g ts as K Z :=
 .inr (.inr (.inr (.inr (.inr (.inr (.inr (.inr (.inl ⟨us,v,hus,hc,hp,hk⟩))))))))
theorem CallK_stay [Glob] {P : Program} {T : TypeId -> Option Ty} {st : St} {d : Option Nat} {g : FuncId} {ts : List TypeId} {as : List V} {K : St -> Prop} {Z : Value -> St -> Prop} (b0 : Nat) (S : List Nat) {us : List V} {e c : Nat} {l : List (List PV)} {β : Value -> List Blk} {β3 : List Blk} {v : V} (hc : ∀ x, scal x = true -> Con P g us (β x) (.ret v [] (β3.map (subB 2047 (.v x)))))
 (hS : S.Nodup) (hSl : S.length <= 1023) (hbS : b0 ∉ S) (hb : st.b b0 = some (.row e c l)) (hβ : ∀ x,zQ (stX st S b0 x) (inN S) S = some (β x)) (hus : zN T S ts as = some us) (hfl : uE v = true) (hk : K ⟨xT (lvX st S b0 β3).s d v,(lvX st S b0 β3).b⟩) : yA P T st d g ts as K Z :=
 .inr (.inr (.inr (.inr (.inr (.inr (.inr (.inr (.inr ⟨b0,S,us,e,c,l,β,β3,v,hS,hSl,hbS,hb,hβ,hus,hc,hfl,hk⟩))))))))
section
variable {P : Program} {st : St} {g : FuncId} {us : List V} {u ub : Option (List V)} {X : Prop} {K : St -> Prop} {Z : Value -> St -> Prop}
theorem zR.pure [Glob] {d : Option Nat} {v : V} (hc : zB P g us v) (hp : pureV v = true) (hk : K ⟨xT st.s d v, st.b⟩) : zR P st d g (some us) ub X K Z :=
 .inl ⟨us,v,rfl,hc,hp,hk⟩
theorem zR.own [Glob] {d : Nat} {e c : Nat} {l : List (List PV)} (hc : Con P g us [] (.ret (.row 2048) [.row e c l] [])) (hk : K (crt st d d (.row e c l) (.row d))) : zR P st (some d) g (some us) ub X K Z :=
 .inr (.inl ⟨us,d,e,c,l,.inl rfl,rfl,hc,hk⟩)
theorem zR.lent [Glob] {d : Option Nat} {v : V} (hc : zB P g us v) (hp : uE v = true) (hk : K ⟨xT st.s d v, st.b⟩) : zR P st d g u (some us) X K Z :=
 .inr (.inr (.inl ⟨us,v,rfl,hc,hp,hk⟩))
end
def zJ [Glob] (P : Program) (g : FuncId) (u ub : Option (List V)) (K : V -> Prop) : Prop :=
 (∃ us v,u = some us /\ zB P g us v /\ pureV v = true /\ K v) \/ (∃ us v,ub = some us /\ zB P g us v /\ uE v = true /\ K v)
theorem zM [Glob] {P : Program} {T : TypeId -> Option Ty} {st : St} {g : FuncId} {ts : List TypeId} {as : List V} {K : V -> Prop} (h : zJ P g (argsP T ts as) (vG T st ts as) K) : xZ P T st g ts as K := .inl h
theorem CallQ_opq [Glob] {P : Program} {T : TypeId -> Option Ty} {st : St} {g : FuncId} {ts : List TypeId} {as : List V} {K : V -> Prop} (S : List Nat) {us : List V} {v : V} (hc : zB P g us v) (hSl : S.length <= 1024) (hus : zN T S ts as = some us) (hk : K (ren (ouN S []) (fun _ => none) v)) : xZ P T st g ts as K := .inr (.inl ⟨S, us, v, hSl, hus, hc, hk⟩)
theorem yY [Glob] {P : Program} {T : TypeId -> Option Ty} {st : St} {g : FuncId} {ts : List TypeId} {as : List V} {K : V -> Prop} (b b0 : Nat) (cells : List V) {e er : TypeId} {cr : Nat} {lr : List (List PV)} {us : List V} {v : V} (hb : st.b b = some (.box e cells)) (hr : st.b b0 = some (.row er cr lr)) (hok : cells.all (okX b0) = true) (hus : zN T [b] ts as = some us)
 (hc : ∀ x,scal x = true -> Con P g us [.box e (cells.map (xM b0 (.v x)))] (.ret v [] [.box e (cells.map (xM b0 (.v x)))])) (hn : nameless v = true) (hk : K v) : xZ P T st g ts as K:=.inr (.inr (.inr ⟨b,b0,e,cells,er,cr,lr,us,v,hb,hr,hok,hus,hc,hn,hk⟩))
theorem zJ.pure [Glob] {P : Program} {g : FuncId} {us : List V} {ub : Option (List V)} {v : V} {K : V -> Prop} (hc : zB P g us v) (hp : pureV v = true) (hk : K v) : zJ P g (some us) ub K := .inl ⟨us, v, rfl, hc, hp, hk⟩
theorem zJ.lent [Glob] {P : Program} {g : FuncId} {us : List V} {u : Option (List V)} {v : V} {K : V -> Prop} (hc : zB P g us v) (hp : uE v = true) (hk : K v) : zJ P g u (some us) K := .inr ⟨us, v, rfl, hc, hp, hk⟩
def mkO (d : Option Nat) : Oper := ⟨d, .ready 0, 0, "", #[], none⟩
def gd (ds : List (Option Nat)) : Array Oper := (ds.map mkO).toArray
def strip (o : Oper) : Oper := ⟨o.dst, o.op, o.type, "", #[], o.guard⟩
theorem gd_get (ds : List (Option Nat)) (j : Nat) : ((gd ds)[j]?).bind (·.dst) = (ds[j]?).bind id := by
 simp only [gd,List.getElem?_toArray,List.getElem?_map]
 cases ds[j]? <;> rfl
theorem wantedA_gd [Glob] (ops : Array Oper) (st : St) (o : Oper) : yN (gd (ops.toList.map (·.dst))) st (strip o) = yN ops st o := by
 unfold yN
 simp only [strip]
 split
 ·rfl
 ·rename_i j want hg
  rw [gd_get,List.getElem?_map]
  have : (ops.toList[j]?) = ops[j]?:=by simp
  rw [this]
  cases ops[j]? <;> rfl
theorem stepA_strip [Glob] (P : Program) (T : TypeId -> Option Ty) (N : Nat) (st : St) (o : Oper) (K : St -> Prop) (Z : Value -> St -> Prop) : stepA P T N st (strip o) K Z = stepA P T N st o K Z := rfl
theorem stepQ_strip [Glob] (P : Program) (T : TypeId -> Option Ty) (N : Nat) (st : St) (o : Oper) (K : V -> Prop) : stepQ P T N st (strip o) K = stepQ P T N st o K := rfl
theorem awpOps_strip [Glob] (P : Program) (T : TypeId -> Option Ty) (N : Nat) (ops : Array Oper) (K : St -> Prop) (Z : Value -> St -> Prop) : ∀ (l : List Oper) (st : St), xF P T N (gd (ops.toList.map (·.dst))) (l.map strip) st K Z = xF P T N ops l st K Z
 | [],st=>rfl
 | o :: l, st => by
  simp only [tZ,xF,wantedA_gd,stepA_strip]
  have h1 : (fun st'=>xF P T N (gd (ops.toList.map (·.dst))) (l.map strip) st' K Z) = fun st'=>xF P T N ops l st' K Z:=funext fun st'=>awpOps_strip P T N ops K Z l st'
  simp only [h1]
  have h2 : ∀ (st : St) v,xF P T N (gd (ops.toList.map (·.dst))) (l.map strip) ⟨xT st.s (strip o).dst v,st.b⟩ K Z = xF P T N ops l ⟨xT st.s o.dst v,st.b⟩ K Z:=fun st v=>awpOps_strip P T N ops K Z l _
  simp only [h2]
  rfl
theorem awpQ_strip [Glob] (P : Program) (T : TypeId -> Option Ty) (N : Nat) (ops : Array Oper) (K : St -> Prop) : ∀ (l : List Oper) (st : St), awpQ P T N (gd (ops.toList.map (·.dst))) (l.map strip) st K = awpQ P T N ops l st K
 | [],st=>rfl
 | o :: l, st => by
  simp only [tZ,awpQ,wantedA_gd,stepQ_strip]
  have h2 : ∀ v,awpQ P T N (gd (ops.toList.map (·.dst))) (l.map strip) ⟨xT st.s (strip o).dst v,st.b⟩ K = awpQ P T N ops l ⟨xT st.s o.dst v,st.b⟩ K:=fun v=>awpQ_strip P T N ops K l _
  simp only [h2]
  rfl
theorem awpC_reg2 [Glob] {P : Program} {T : TypeId -> Option Ty} {N : Nat} {id : Nat} {l : List Oper} {Q : AExit -> St -> Prop} {st : St} (h : xF P T N (gd (l.map (·.dst))) (l.map strip) st (Q .normal) (fun y => Q (.pan y))) : vA P T N (.region id l.toArray false) Q st := by
 refine awpC_reg ?_
 have:=awpOps_strip P T N l.toArray (Q .normal) (fun y=>Q (.pan y)) l st
 rw [<- this];exact h
theorem awpC_drw2 [Glob] {P : Program} {T : TypeId -> Option Ty} {N : Nat} {id : Nat} {l : List Oper} {Q : AExit -> St -> Prop} {st : St} (hok : drawOK l.toArray l.toArray.size = true) (h : awpQ P T N (gd (l.map (·.dst))) (l.map strip) st (Q .normal)) : vA P T N (.region id l.toArray true) Q st := by
 refine awpC_drwA hok ?_
 have:=awpQ_strip P T N l.toArray (Q .normal) l st
 rw [<- this];exact h
theorem wantedA_gd' [Glob] (ds : List (Option Nat)) (st : St) (o : Oper) : yN (gd ds) st o = match o.guard with
 | none=>some true
 | some (j, want) => match (ds[j]?).bind id with
  | none=>none
  | some d => match st.s d with
   | .p (.v (.bool b))=>some (b == want)
   | .tup []=>some false
   | _=>none:=by
 unfold yN
 cases o.guard with
 | none=>rfl
 | some g=>simp only [gd_get];rfl
attribute [simp] wantedA_gd'
structure WC [Glob] (P : Program) (T : TypeId -> Option Ty) (N : Nat) (c : Code) (Q : AExit -> St -> Prop) (st : St) : Prop where
 h : vA P T N c Q st
structure WO [Glob] (P : Program) (T : TypeId -> Option Ty) (N : Nat) (ops : Array Oper) (l : List Oper) (st : St) (K : St -> Prop) (Z : Value -> St -> Prop) : Prop where
 h : xF P T N ops l st K Z
structure WQ [Glob] (P : Program) (T : TypeId -> Option Ty) (N : Nat) (ops : Array Oper) (l : List Oper) (st : St) (K : St -> Prop) : Prop where
 h : awpQ P T N ops l st K
section
variable {P : Program} {T : TypeId -> Option Ty} {N : Nat} {Q : AExit -> St -> Prop} {st : St}
theorem zT [Glob] {x y : Code} (h : ∀ K : St -> Prop, (∀ st', WC P T N y Q st' -> K st') -> WC P T N x (thenA K Q) st) : WC P T N (.seq x y) Q st :=
 ⟨awpC_seq_k fun K hK=>(h K fun st' hw=>hK st' hw.h).h⟩
theorem zS [Glob] {id : Nat} {l : List Oper} (h : WO P T N (gd (l.map (·.dst))) (l.map strip) st (Q .normal) (fun y => Q (.pan y))) : WC P T N (.region id l.toArray false) Q st := ⟨awpC_reg2 h.h⟩
theorem wDrw [Glob] {id : Nat} {l : List Oper} (hok : drawOK l.toArray l.toArray.size = true) (h : WQ P T N (gd (l.map (·.dst))) (l.map strip) st (Q .normal)) : WC P T N (.region id l.toArray true) Q st := ⟨awpC_drw2 hok h.h⟩
theorem wDrwT [Glob] {id : Nat} {l : List Oper} (n : Nat) (hok : drawOK l.toArray n = true) (h : WQ P T N (gd (l.map (·.dst))) ((l.map strip).take n) st (fun st' => WO P T N (gd (l.map (·.dst))) ((l.map strip).drop n) st' (Q .normal) (fun y => Q (.pan y)))) : WC P T N (.region id l.toArray true) Q st := by
 refine ⟨.inl ⟨n,[],hok,?_⟩⟩
 have h1:=h.h
 rw [<- List.map_take] at h1
 have h2:=awpQ_strip P T N l.toArray (fun st'=>WO P T N (gd (l.map (·.dst))) ((l.map strip).drop n) st' (Q .normal) (fun y=>Q (.pan y))) (l.take n) st
 simp only at h2
 rw [h2] at h1
 have h3 : (fun st' => WO P T N (gd (l.map (·.dst))) ((l.map strip).drop n) st' (Q .normal) (fun y => Q (.pan y))) = fun st' => xF P T N l.toArray (l.toArray.toList.drop n) st' (Q .normal) (fun y => Q (.pan y)) := funext fun st' => propext (by
  have h4:=awpOps_strip P T N l.toArray (Q .normal) (fun y=>Q (.pan y)) (l.drop n) st'
  simp only [List.map_drop] at h4
  constructor
  ·rintro ⟨h5⟩
   rw [<- h4];exact h5
  ·intro h5
   refine ⟨?_⟩
   rw [<- h4] at h5;exact h5)
 rw [h3] at h1
 exact h1
theorem zW [Glob] {c : Operand} {x y : Code} (h : match evO st c with
 | .p (.v (.bool b))=>(b = true -> WC P T N x Q st) /\ (b = false -> WC P T N y Q st)
 | _=>False) : WC P T N (.cond c x y) Q st:=by
 refine ⟨?_⟩
 rw [awpC_cond_eq]
 split at h
 ·exact ⟨fun hb=>(h.1 hb).h,fun hb=>(h.2 hb).h⟩
 ·exact h
theorem zL [Glob] (h : Q .ret st) : WC P T N .ret Q st := ⟨[], h⟩
theorem wRetG [Glob] (gs : List Gh) (h : Q .ret (uY st gs)) : WC P T N .ret Q st := ⟨gs, h⟩
theorem zC [Glob] {id : Nat} (h : Q (.exit id) st) : WC P T N (.exit id) Q st := ⟨h⟩
theorem zP [Glob] (h : Q .normal st) : WC P T N .skip Q st := ⟨h⟩
theorem wK [Glob] {l : Nat} (h : Q .normal st) : WC P T N (.label l) Q st := ⟨h⟩
theorem wD [Glob] {x : Code} (h : WC P T N x Q st) : WC P T N (.scope x) Q st := ⟨h.h⟩
theorem zU [Glob] {id : Nat} {x : Code} (h : WC P T N x (blockA id Q) st) : WC P T N (.block id x) Q st := ⟨h.h⟩
theorem yJ [Glob] {x : Code} (I : Nat -> St -> Prop) (n : Nat) (h0 : I n st) (h : ∀ (K : St -> Prop) n st', (∀ (s : St) n', n' < n -> I n' s -> K s) -> I n st' -> WC P T N x (thenA K Q) st') : WC P T N (.loop x) Q st :=
 ⟨awpC_loop [] I n h0 fun K n st' hk hi=>(h K n st' hk hi).h⟩
theorem wLoopG [Glob] {x : Code} (gs : List Gh) (I : Nat -> St -> Prop) (n : Nat) (h0 : I n (uY st gs)) (h : ∀ (K : St -> Prop) n st', (∀ (s : St) n', n' < n -> I n' s -> K s) -> I n st' -> WC P T N x (thenA K Q) st') : WC P T N (.loop x) Q st :=
 ⟨awpC_loop gs I n h0 fun K n st' hk hi=>(h K n st' hk hi).h⟩
variable {ops : Array Oper} {o : Oper} {rest : List Oper}
theorem wOn [Glob] {K : St -> Prop} {Z : Value -> St -> Prop} (h : K st) : WO P T N ops [] st K Z := ⟨h⟩
theorem wOs [Glob] {K : St -> Prop} {Z : Value -> St -> Prop} (h : ∀ K' : St -> Prop, (∀ st', WO P T N ops rest st' K Z -> K' st') →
 match yN ops st o with
 | none=>False
 | some q=>(q = true -> stepA P T N st o K' Z) /\ (q = false -> wY N o.dst /\ K' ⟨xT st.s o.dst (.tup []),st.b⟩)) : WO P T N ops (o :: rest) st K Z :=
 ⟨awpOps_step fun K' hK=>h K' fun st' hw=>hK st' hw.h⟩
theorem wFrz [Glob] (bs : List Gh) {K : St -> Prop} {Z : Value -> St -> Prop} (h : WO P T N ops (o :: rest) (uY st bs) K Z) : WO P T N ops (o :: rest) st K Z := by
 obtain ⟨bs',h⟩:=h.h
 refine ⟨⟨bs ++ bs',?_⟩⟩
 rw [frzL_append];exact h
structure WT [Glob] (P : Program) (T : TypeId -> Option Ty) (N : Nat) (l : List Oper) (K : St -> Prop) (Z : Value -> St -> Prop) (h : Nat) (listed : Array Bool) (st : St) : Prop where
 h : awpTree P T N l.toArray K Z h listed st
theorem wQn [Glob] {K : St -> Prop} (h : K st) : WQ P T N ops [] st K := ⟨h⟩
theorem wQs [Glob] {K : St -> Prop} (h : ∀ K' : V -> Prop, (∀ v, WQ P T N ops rest ⟨xT st.s o.dst v, st.b⟩ K -> K' v) →
 match yN ops st o with
 | none=>False
 | some q=>(q = true -> stepQ P T N st o K') /\ (q = false -> wY N o.dst /\ K' (.tup []))) : WQ P T N ops (o :: rest) st K :=
 ⟨awpQ_step fun K' hK=>h K' fun v hw=>hK v hw.h⟩
end
theorem ARes.pure {T : TypeId -> Option Ty} {st : St} {rs : List ResultVar} {ts : List TypeId} {v : V} (h : ∃ l, resL T st (gaN []) rs ts = some l /\ v = tupV l) : ARes T st rs ts (.ret v [] []) :=
 ⟨[],List.nodup_nil,fun n hn=>by simp at hn,trivial,trivial,by simp,h⟩
theorem ARes.row {T : TypeId -> Option Ty} {st : St} {t b e c : Nat} {l : List (List PV)} {ts : List TypeId} (hs : st.s t = .row b) (hb : st.b b = some (.row e c l)) (hlt : b < 1024) : ARes T st [.tmp t] ts (.ret (.row 2048) [.row e c l] []) := by
 refine ⟨[b],by simp,fun n hn=>by simp at hn;omega,⟨⟨_,hb,rfl⟩,trivial⟩,trivial,by simp,[.row 2048],?_,rfl⟩
 have : gaN [b] b = some 2048:=by simp [gaN,pos];omega
 simp only [resL,hs,resV,this]
theorem zK [Glob] {P : Program} {T : TypeId -> Option Ty} (hT : yP P T) (hm : P.follows .mixedOrders = true) {f : FuncId} {fn : Func} {body : Code} (hf : P.funcs[f]? = some fn) (hname : (fn.name == "runtime.NumGoroutine") = false) (hb : fn.body = some body) {N : Nat} (hN' : fn.ntmps = N) {args : List V} {v : V}
 (hN : args.length <= N) (hN2 : N <= 1024) (h : ∀ Q : AExit -> St -> Prop,(∀ st,(∃ l,resL T st (gaN []) fn.results.toList fn.resultTypes.toList = some l /\ v = tupV l) -> Q .ret st) -> (∀ st,(∃ l,resL T st (gaN []) fn.results.toList fn.resultTypes.toList = some l /\ v = tupV l) -> Q .normal st) -> WC P T N body Q (initS args [])) : zB P f args v :=
 zB.of_body' hT hm hf hname hb hN' hN hN2 fun Q h1 h2 _=>(h Q (fun st hs=>h1 st (.pure hs)) (fun st hs=>h2 st (.pure hs))).h
theorem wBodyR [Glob] {P : Program} {T : TypeId -> Option Ty} (hT : yP P T) (hm : P.follows .mixedOrders = true) {f : FuncId} {fn : Func} {body : Code} (hf : P.funcs[f]? = some fn) (hname : (fn.name == "runtime.NumGoroutine") = false) (hb : fn.body = some body) {N : Nat} (hN' : fn.ntmps = N) {args : List V} {t : Nat} (hrs : fn.results.toList = [.tmp t]) {e c : Nat} {l : List (List PV)}
 (hN : args.length <= N) (hN2 : N <= 1024) (h : ∀ Q : AExit -> St -> Prop,(∀ st b,st.s t = .row b -> st.b b = some (.row e c l) -> b < 1024 -> Q .ret st) -> (∀ st b,st.s t = .row b -> st.b b = some (.row e c l) -> b < 1024 -> Q .normal st) -> WC P T N body Q (initS args [])) : Con P f args [] (.ret (.row 2048) [.row e c l] []) :=
 zB.of_body' hT hm hf hname hb hN' hN hN2 fun Q h1 h2 _=>(h Q (fun st b hs hb' hlt=>h1 st (by rw [hrs];exact .row hs hb' hlt)) (fun st b hs hb' hlt=>h2 st (by rw [hrs];exact .row hs hb' hlt))).h
theorem zE [Glob] {P : Program} {T : TypeId -> Option Ty} (hT : yP P T) (hm : P.follows .mixedOrders = true) {f : FuncId} {fn : Func} {body : Code} (hf : P.funcs[f]? = some fn) (hname : (fn.name == "runtime.NumGoroutine") = false) (hb : fn.body = some body) {N : Nat} (hN' : fn.ntmps = N) {args : List V} {β : List Blk} {out : Out}
 (hN : args.length <= N) (hN2 : N <= 1024) (h : ∀ Q : AExit -> St -> Prop,(∀ st,ARes T st fn.results.toList fn.resultTypes.toList out -> Q .ret st) -> (∀ st,ARes T st fn.results.toList fn.resultTypes.toList out -> Q .normal st) -> (∀ y st,AResP st y out -> Q (.pan y) st) -> WC P T N body Q (initS args β)) : Con P f args β out :=
 zB.of_body' hT hm hf hname hb hN' hN hN2 fun Q h1 h2 h3=>(h Q h1 h2 h3).h
theorem wBodyM [Glob] {P : Program} {T : TypeId -> Option Ty} (hT : yP P T) (hm : P.follows .mixedOrders = true) {f : FuncId} {fn : Func} {body : Code} (hf : P.funcs[f]? = some fn) (hname : (fn.name == "runtime.NumGoroutine") = false) (hb : fn.body = some body) {n : Nat} (hN' : fn.ntmps = n) {args : List V} {v : V}
 (hN : args.length <= n) (hN2 : n <= 1024) (h : ∀ Q : AExit -> St -> Prop,(∀ st,ARes T st fn.results.toList fn.resultTypes.toList (.ret v [] []) -> Q .ret st) -> (∀ st,ARes T st fn.results.toList fn.resultTypes.toList (.ret v [] []) -> Q .normal st) -> WC P T (n + 2048) body Q (initS args [])) : zB P f args v:=by
 subst hN'
 exact zB.of_bodyM hT hm hf hname hb hN hN2 (h _ (fun _ h1=>h1) (fun _ h1=>h1)).h
theorem wRng [Glob] {P : Program} {T : TypeId -> Option Ty} {N M : Nat} (pins : List Nat) {p1 p2 g c t : Nat} {l : List (List PV)} {assign body : Code} {Q : AExit -> St -> Prop} {st : St} (Inv : Nat -> (Nat -> Option Blk) -> Prop) (QR : (Nat -> Option Blk) -> Prop)
 (hI : IterB P g c) (hE : Enters P g) (hf : st.s t = .clo ⟨g,false⟩ [.rp [.sl c l] 0]) (hM : ∀ t,M / 2 ^ t % 2 = 1 ↔ t ∈ pins) (hN : N / 2048 % 2 = 1) (hca : calmC assign = true) (hcb : calmC body = true) (h12 : p1 ≠ p2) (hp1 : p1 < N % 2048) (hp2 : p2 < N % 2048) (hn1 : p1 ∉ pins) (hn2 : p2 ∉ pins) (ht : t ∈ pins)
 (h0 : Inv 0 st.b)
 (hr : ∀ k β (hk : k < l.length), Inv k β -> ∀ K : St -> Prop, (∀ st', WC P T (N % 2048 + 4096 * M) body (rndQ Inv QR pins st.s k) st' -> K st') -> WC P T (N % 2048 + 4096 * M) assign (thenA K (fun _ _ => False))
  ⟨fun t=>if t = p2 then .p (.agg (l[l.length - 1 - k]'(by omega))) else if t = p1 then .p (.v (.int .i64 ((l.length - 1 - k : Nat) : Int))) else if t ∈ pins then st.s t else .junk,β⟩)
 (hend : ∀ β,Inv l.length β -> Q .normal ⟨fun t=>if t ∈ pins then st.s t else .junk,β⟩) (hret : ∀ β,QR β -> Q .ret ⟨fun t=>if t ∈ pins then st.s t else .junk,β⟩) : WC P T N (.rangeFunc (.tmp t) #[p1,p2] assign body) Q st :=
 ⟨⟨M,pins,p1,p2,g,c,l,Inv,QR,hN,hca,hcb,rfl,h12,hp1,hp2,hn1,hn2,hM,⟨t,rfl,ht⟩,hf,hI,hE,h0,fun k β hk hi=>(hr k β hk hi _ fun _ h=>h.h).h,hend,hret⟩⟩
def maskOf : List Nat -> Nat
 | []=>0
 | t :: l=>(1 <<< t) ||| maskOf l
theorem mask_bit (pins : List Nat) (t : Nat) : maskOf pins / 2 ^ t % 2 = 1 ↔ t ∈ pins := by
 have h1 : ∀ l, (maskOf l).testBit t = decide (t ∈ l) := by
  intro l
  induction l with
  | nil=>simp [maskOf]
  | cons s l ih =>
   simp only [maskOf,Nat.testBit_or,ih,Nat.one_shiftLeft,Nat.testBit_two_pow]
   by_cases h : s = t
   ·subst h;simp
   ·have h' : ¬ t = s := fun hh => h hh.symm
    simp [h,h']
 have:=h1 pins
 rw [Nat.testBit_eq_decide_div_mod_eq] at this
 simpa using this
def loopsOf : Code -> List Code
 | .seq x y=>loopsOf x ++ loopsOf y
 | .cond _ x y=>loopsOf x ++ loopsOf y
 | .block _ x=>loopsOf x
 | .scope x=>loopsOf x
 | .loop x=>.loop x :: loopsOf x
 | _=>[]
def lp (fn : Func) (n : Nat) : Code := match fn.body with
 | some b=>(loopsOf b).getD n .skip
 | none=>.skip
end Go.Av
namespace Go.Av
open Go
end Go.Av
