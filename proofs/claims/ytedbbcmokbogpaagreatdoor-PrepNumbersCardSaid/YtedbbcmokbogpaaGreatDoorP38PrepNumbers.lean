/- Texts that the proof needs: NI. -/
import Derived.Test.YtedbbcmokbogpaaGreatDoorP31PrepNumbers
namespace Go.Proofs.YtedbbcmokbogpaaGreatDoor
set_option linter.unusedSimpArgs false
set_option linter.unusedVariables false
open Go Go.Av
attribute [local irreducible] Go.Av.yP Go.Av.zU Go.Av.yN Go.Av.zT Go.Av.yO Go.Av.zV Go.Av.Con
theorem tre_head {l:List Zn}(h:tre l=true):∃x r,l=x::r/\x.p=[47]/\x.o=0/\l.length<=60:=by
 obtain⟨h1,-⟩:=wL h
 unfold hdo at h1
 simp only[Bool.and_eq_true,decide_eq_true_eq] at h1
 cases l with
 |nil=>simp at h1
 |cons x r =>
  have h2:=h1.2
  simp only[List.getElem?_cons_zero,Bool.and_eq_true,decide_eq_true_eq] at h2
  exact⟨x,r,rfl,h2.1,h2.2,h1.1.2⟩
theorem hdo_of {x:Zn}{r:List Zn}(h1:x.p=[47])(h2:x.o=0)(h3:(x::r).length<=60):hdo (x::r)=true:=by
 unfold hdo
 simp only[List.getElem?_cons_zero,Bool.and_eq_true,decide_eq_true_eq]
 exact⟨⟨by simp,h3⟩,h1,h2⟩
theorem put_cons {x:Zn}{r:List Zn}{z:Zn}(h:x.p<z.p):xT (x::r) z=x::xT r z:=by
 have e:att (x::r) z.p=att r z.p+1:=by rw[att,lss_eq,if_pos (decide_eq_true h)]
 unfold xT
 rw[e,List.take_succ_cons,List.drop_succ_cons];rfl
theorem put_mem {l:List Zn}{z y:Zn}(h:y∈xT l z):y=z\/y∈l:=by
 unfold xT at h
 rcases List.mem_append.1 h with h|h
 ·exact .inr (List.mem_of_mem_take h)
 ·rcases List.mem_cons.1 h with h|h
  ·exact .inl h
  ·exact .inr (List.mem_of_mem_drop ((rst_sub _ _).subset h))
theorem root_lt {q:List UInt8}(h:chk q=0)(h1:¬ q=[47]):[47]<q:=by
 rcases chk_spec h with h2|⟨-,R,rfl,hR⟩
 ·exact absurd h2 h1
 ·cases R with
  |nil=>exact absurd rfl hR
  |cons a r=>exact lt_app [47] a r
theorem par_true {z:Zn}(h:rgz z=true)(h0:¬ z.p=[47]):(par z.p).2=true:=by
 simp only[rgz,decide_eq_true_eq] at h
 exact (par_lt (by rw[chd,decide_eq_true_eq];exact⟨h0,h.1⟩)).1
theorem tre_gone {l:List Zn}(h:tre l=true){w:List UInt8}(hw:¬ w=[47])(hk:kds l w=[]):tre (gone l w)=true:=by
 obtain⟨y,r,rfl,hy1,hy2,hy3⟩:=tre_head h
 obtain⟨t1,t2,t3,t4⟩:=wL h
 have hm:gone (y::r) w=y::gone r w:=by
  unfold gone
  rw[List.filter_cons_of_pos (by simp only[hy1,Bool.not_eq_true',decide_eq_false_iff_not];exact fun e=>hw e.symm)]
 have hlen:=goneZ_len (y::r) w
 refine tre_of (by rw[hm];exact hdo_of hy1 hy2 (by rw[<- hm];omega)) (ris_gone t2 w) (fun z hz=>t3 z (List.mem_filter.1 hz).1) fun z hz hz0=>?_
 have hz':=(List.mem_filter.1 hz).1
 obtain⟨a,b⟩:=t4 z hz' hz0
 have hne:¬ (par z.p).1=w:=fun e=>by
  have hi:isk w z=true:=by
   unfold isk
   rw[par_true (t3 z hz') hz0,Bool.true_and];exact decide_eq_true e
  have:nam z.p∈kds (y::r) w:=List.mem_map.2 ⟨z,List.mem_filter.2 ⟨hz',hi⟩,rfl⟩
  rw[hk] at this;simp at this
 rw[fnd_gone,if_neg hne]
 exact⟨a,b⟩
theorem par_root:(par [47]).2=false:=rfl
end Go.Proofs.YtedbbcmokbogpaaGreatDoor
