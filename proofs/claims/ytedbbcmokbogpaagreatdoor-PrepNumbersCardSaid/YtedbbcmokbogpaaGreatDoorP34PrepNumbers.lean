/- Texts that the proof needs: Itoa ExtN PIQ XD. -/
import Derived.Test.YtedbbcmokbogpaaGreatDoorP32PrepNumbers
import Derived.Test.YtedbbcmokbogpaaGreatDoorP17PrepNumbers
import Derived.Test.YtedbbcmokbogpaaGreatDoorP33PrepNumbers
import Derived.Test.YtedbbcmokbogpaaGreatDoorP12PrepNumbers
import Derived.Test.YtedbbcmokbogpaaGreatDoorP18PrepNumbers
import Derived.Test.YtedbbcmokbogpaaGreatDoorP16PrepNumbers
import Derived.Test.YtedbbcmokbogpaaGreatDoorP29PrepNumbers
namespace Go.Proofs.YtedbbcmokbogpaaGreatDoor
set_option linter.unusedSimpArgs false
set_option linter.unusedVariables false
open Go Go.Av
theorem zD.shelf [Glob]{P:Program}{g:FuncId}(he:Go.Av.Enters P g)(xs:List Value){z:Value}(hz:scal z=true)
 (hrun:∀ (F:Nat->Prop)(w:World)(m:Nm),Hp w F m (nmF [] [])->Calls P g xs.toArray w fun e w'=>e=.returned z/\Keeps (fun _=>False) w w') :
 zD P g (xs.map fun x=>.p (.v x)) (.p (.v z)):=by
 intro F w m ys hp hl har
 have hl':ys.length=xs.length:=by simpa using hl
 have hys:ys=xs:=by
  apply List.ext_getElem?
  intro i
  by_cases hi:i<xs.length
  ·obtain⟨y,h1,h2⟩:=har i (.p (.v xs[i])) (by simp[hi])
   have h3:RP w _ (.v xs[i]) y:=h2
   cases h3
   rw[h1,List.getElem?_eq_getElem hi]
  ·rw[List.getElem?_eq_none (by omega),List.getElem?_eq_none (by omega)]
 subst hys
 refine .inl ⟨he,(hrun F w m hp).mono fun e w' ⟨h1,hk⟩=>?_⟩
 subst h1
 refine⟨hk.mono fun k h=>h.elim,z,m,rfl,?_,fun n k ho=>by simp[owns,xM] at ho,fun _ _ _=>rfl,RV.of0 (v:=.p _) (.v _ hz)⟩
 exact Hp.none (fun k hk'=>Nat.lt_of_lt_of_le (hp.fold k hk') hk.size) xM fun g e he=>(hp.glob g e he).move hk.size (fun k hlt _=>hk.block k hlt id) fun k _ hf=>.inl hf
def rgt (n:Int):Bool:=decide (0<=n/\n<=1099511627776)
theorem itoa_con {n:Int}(h:rgt n=true):zD Tryz.prog 86 [.p (I n)] (.p (SB (Go.Lib.itoa n))):=by
 simp only[rgt,decide_eq_true_eq] at h
 refine zD.shelf ⟨Tryz.f86,Tryz.func86,rfl,rfl⟩ [.int .i64 n] rfl fun F w m hp=>?_
 have hg:Glob.g 1=some (Go.Lib.pow10Tab.map fun z=>PV.v (.int .u64 z)):=by kernel_rfl
 have ht := (hp.glob 1 _ hg).tab (P := Tryz.prog) (name := "internal/strconv.uint64pow10") (by kernel_rfl)
 refine (Tryz.strconv_Itoa n (by omega) (by omega) w ht).mono fun e w' ⟨h1,k,os,h2⟩=>⟨h1,?_⟩
 subst h2
 refine⟨rfl,rfl,rfl,?_,fun i hi _=>?_⟩
 ·show w.heap.size<=(w.heap++os).size
  simp
 ·show (w.heap++os)[i]?=w.heap[i]?
  exact Array.getElem?_append_left hi
def xbase:yF:=fun _ _ _=>none
theorem wS:∀g args β out,xbase g args β=some out->Con Tryz.prog g args β out:=fun g args β out h=>by
 simp[xbase] at h
end Go.Proofs.YtedbbcmokbogpaaGreatDoor
namespace Go.Proofs.YtedbbcmokbogpaaGreatDoor
set_option linter.unusedSimpArgs false
set_option linter.unusedVariables false
open Go Go.Av Go.Lib
attribute [local irreducible] Go.Av.yP Go.Av.zU Go.Av.yN Go.Av.zT Go.Av.yO Go.Av.zV Go.Av.Con
def pw:Nat->Nat->List UInt8
 |0,_=>[]
 |w+1,n=>pw w (n / 10)++[UInt8.ofNat (48+n % 10)]
theorem pw_len:∀ (w n:Nat),(pw w n).length=w
 |0,_=>rfl
 |w+1,n=>by rw[pw,List.length_append,pw_len w];rfl
theorem pw_front:∀ (w n:Nat),pw (w+1) n=UInt8.ofNat (48+n / 10 ^ w % 10)::pw w n
 |0,n=>by simp[pw]
 |w+1,n=>by
  rw[pw,pw_front w (n / 10)]
  have e:n / 10 / 10 ^ w=n / 10 ^ (w+1):=by rw[Nat.div_div_eq_div_mul,Nat.pow_succ,Nat.mul_comm]
  rw[e,List.cons_append];rfl
theorem pw_mod:∀ (w n:Nat),pw w (n % 10 ^ w)=pw w n
 |0,_=>rfl
 |w+1,n=>by
  have e1:n % 10 ^ (w+1) / 10=n / 10 % 10 ^ w:=by
   rw[Nat.pow_succ,Nat.mul_comm,Nat.mod_mul_right_div_self]
  have e2:n % 10 ^ (w+1) % 10=n % 10:=Nat.mod_mod_of_dvd n ⟨10 ^ w,by rw[Nat.pow_succ,Nat.mul_comm]⟩
  rw[pw,pw,e1,e2,pw_mod w]
theorem dec_pw:∀ (w n:Nat),n<10 ^ (w+1)->(decDigits n).length<=w+1/\1<=(decDigits n).length/\List.replicate (w+1-(decDigits n).length) 48++decDigits n=pw (w+1) n
 |w,n,h=>by
  by_cases h10:n<10
  ·have e:decDigits n=[UInt8.ofNat (48+n)]:=by rw[decDigits,dif_pos h10]
   rw[e]
   have z:∀w,pw w 0=List.replicate w 48:=by
    intro w
    induction w with
    |zero=>rfl
    |succ w ih=>rw[pw,show (0:Nat) / 10=0 from rfl,ih,List.replicate_succ'];rfl
   refine⟨by simp,by simp,?_⟩
   rw[pw,show n / 10=0 by omega,z,show n % 10=n by omega];rfl
  ·have e:decDigits n=decDigits (n / 10)++[UInt8.ofNat (48+n % 10)]:=by rw[decDigits,dif_neg h10]
   cases w with
   |zero=>simp at h;omega
   |succ w =>
    obtain⟨a,b,c⟩:=dec_pw w (n / 10) (by rw[Nat.pow_succ] at h;omega)
    rw[e]
    refine⟨by simp;omega,by simp,?_⟩
    rw[pw,<- c,List.length_append,<- List.append_assoc]
    congr 3
    simp only[List.length_cons,List.length_nil]
    omega
theorem itoa_pw {n:Int}(h0:¬ n<0)(h1:¬ 9999999999<n):1<=(itoa n).length/\(itoa n).length<=10/\List.replicate (10-(itoa n).length) 48++itoa n=pw 10 n.toNat:=by
 have e:itoa n=decDigits n.toNat:=by unfold itoa;rw[if_neg h0]
 rw[e]
 obtain⟨a,b,c⟩:=dec_pw 9 n.toNat (by simp;omega)
 exact⟨b,a,c⟩
theorem u8_lt {a b:Nat}(ha:a<10)(hb:b<10):UInt8.ofNat (48+a)<UInt8.ofNat (48+b) ↔ a<b:=by
 rw[UInt8.lt_iff_toNat_lt,UInt8.toNat_ofNat',UInt8.toNat_ofNat']
 omega
theorem u8_eq {a b:Nat}(ha:a<10)(hb:b<10):UInt8.ofNat (48+a)=UInt8.ofNat (48+b) ↔ a=b:=by
 rw[<- UInt8.toNat_inj,UInt8.toNat_ofNat',UInt8.toNat_ofNat']
 omega
theorem pw_split {w n:Nat}(h:n<10 ^ (w+1)):∃d r,d<10/\r<10 ^ w/\n=d * 10 ^ w+r/\pw (w+1) n=UInt8.ofNat (48+d)::pw w r:=by
 have hp:0<10 ^ w:=Nat.pow_pos (by omega)
 have hd:n / 10 ^ w<10:=by rw[Nat.div_lt_iff_lt_mul hp,Nat.mul_comm];rw[Nat.pow_succ] at h;exact h
 refine⟨n / 10 ^ w,n % 10 ^ w,hd,Nat.mod_lt _ hp,(Nat.div_add_mod' n (10 ^ w)).symm,?_⟩
 rw[pw_front,pw_mod,Nat.mod_eq_of_lt hd]
theorem pw_lt:∀ (w n m:Nat),n<10 ^ w->m<10 ^ w->(pw w n<pw w m ↔ n<m)/\(pw w n=pw w m ↔ n=m)
 |0,n,m,hn,hm=>by
  simp at hn hm
  subst hn;subst hm
  simp[pw]
 |w+1,n,m,hn,hm=>by
  obtain⟨d,r,hd,hr,en,e1⟩:=pw_split hn
  obtain⟨d',r',hd',hr',em,e2⟩:=pw_split hm
  obtain⟨i1,i2⟩:=pw_lt w r r' hr hr'
  rw[e1,e2,List.cons_lt_cons_iff,List.cons.injEq,u8_lt hd hd',u8_eq hd hd',i1,i2]
  generalize 10 ^ w=P at *
  have hdd:d<d'->d * P+P<=d' * P:=fun h=>by
   have:=Nat.mul_le_mul_right P h
   rw[Nat.succ_mul] at this;exact this
  have hdd':d'<d->d' * P+P<=d * P:=fun h=>by
   have:=Nat.mul_le_mul_right P h
   rw[Nat.succ_mul] at this;exact this
  rcases Nat.lt_trichotomy d d' with h|h|h
  ·have:=hdd h
   constructor
   ·constructor
    ·intro _;omega
    ·intro _;exact .inl h
   ·constructor
    ·rintro ⟨h1,_⟩;omega
    ·intro _;omega
  ·subst h
   constructor
   ·constructor
    ·rintro (h1|⟨_,h1⟩) <;> omega
    ·intro _;right;exact⟨rfl,by omega⟩
   ·constructor
    ·rintro ⟨_,h1⟩;omega
    ·intro _;exact⟨rfl,by omega⟩
  ·have:=hdd' h
   constructor
   ·constructor
    ·rintro (h1|⟨h1,_⟩) <;> omega
    ·intro _;omega
   ·constructor
    ·rintro ⟨h1,_⟩;omega
    ·intro _;omega
def nbr (p:List UInt8)(n:Int):List UInt8:=p++pw 10 n.toNat
def nmb (p:List UInt8)(n:Int):List UInt8 × Int:=if 64<p.length then ([],5) else if n<0\/9999999999<n then ([],1) else if chk (nbr p n)=0 then (nbr p n,0) else ([],chk (nbr p n))
theorem rep_con:∀c:Nat,c<=9->zD Tryz.prog 87 [.p (SB [48]),.p (I c)] (.p (SB (List.replicate c 48)))
 |0,_=>yH Tryz.tab Tryz.mixed wS 40 _ _ _ _ (by kernel_rfl)
 |1,_=>yH Tryz.tab Tryz.mixed wS 40 _ _ _ _ (by kernel_rfl)
 |2,_=>yH Tryz.tab Tryz.mixed wS 40 _ _ _ _ (by kernel_rfl)
 |3,_=>yH Tryz.tab Tryz.mixed wS 40 _ _ _ _ (by kernel_rfl)
 |4,_=>yH Tryz.tab Tryz.mixed wS 40 _ _ _ _ (by kernel_rfl)
 |5,_=>yH Tryz.tab Tryz.mixed wS 40 _ _ _ _ (by kernel_rfl)
 |6,_=>yH Tryz.tab Tryz.mixed wS 40 _ _ _ _ (by kernel_rfl)
 |7,_=>yH Tryz.tab Tryz.mixed wS 40 _ _ _ _ (by kernel_rfl)
 |8,_=>yH Tryz.tab Tryz.mixed wS 40 _ _ _ _ (by kernel_rfl)
 |9,_=>yH Tryz.tab Tryz.mixed wS 40 _ _ _ _ (by kernel_rfl)
 |_+10,h=>absurd h (by omega)
theorem numbered_con (p:List UInt8)(n:Int)(hp:p.length<=9223372036854775807):zD Tryz.prog 69 [.p (SB p),.p (I n)] (.tup [.p (SB (nmb p n).1),.p (I (nmb p n).2)]):=by
 unfold nmb
 by_cases h1:64<p.length
 ·have h1':(64:Int)<p.length:=by omega
  rw[if_pos h1]
  refine zG Tryz.tab Tryz.mixed Tryz.func69 rfl rfl Tryz.ntmps69 (by simp) (by simp) fun Q hr hn=>?_
  repeat' first|((first|refine O _ ?_|refine O _ _ ?_|(clear O;refine O _ ?_));clear O)|(refine zJ fun K O=>?_)|((first|refine zH ?_|refine zN rfl (by kernel_rfl) ?_|refine zM ?_|refine zK (by kernel_rfl) ?_);simp only[vZ,vY,strip])|((first|refine wIs fun K O=>?_|refine wOs fun K O=>?_|refine wQs fun K O=>?_|refine zW ?_|refine zX ?_|refine zY ?_|refine zL ?_);simp[h1,h1'])|(refine wIn ?_;refine And.intro (by kernel_rfl) ?_;try simp only[zZ])|refine zQ ?_|refine zS ?_|((first|refine zI ?_|refine zO ?_|refine zP ?_);try simp)|((first|refine zR ?_|refine wOn ?_|refine wQn ?_);try simp only[zZ])
  all_goals apply hr
  all_goals simp[Tryz.f69]
 have h1':¬ (64:Int)<p.length:=by omega
 rw[if_neg h1]
 by_cases h2:n<0
 ·rw[if_pos (.inl h2)]
  refine zG Tryz.tab Tryz.mixed Tryz.func69 rfl rfl Tryz.ntmps69 (by simp) (by simp) fun Q hr hn=>?_
  repeat' first|((first|refine O _ ?_|refine O _ _ ?_|(clear O;refine O _ ?_));clear O)|(refine zJ fun K O=>?_)|((first|refine zH ?_|refine zN rfl (by kernel_rfl) ?_|refine zM ?_|refine zK (by kernel_rfl) ?_);simp only[vZ,vY,strip])|((first|refine wIs fun K O=>?_|refine wOs fun K O=>?_|refine wQs fun K O=>?_|refine zW ?_|refine zX ?_|refine zY ?_|refine zL ?_);simp[h1,h1',h2])|(refine wIn ?_;refine And.intro (by kernel_rfl) ?_;try simp only[zZ])|refine zQ ?_|refine zS ?_|((first|refine zI ?_|refine zO ?_|refine zP ?_);try simp)|((first|refine zR ?_|refine wOn ?_|refine wQn ?_);try simp only[zZ])
  all_goals apply hr
  all_goals simp[Tryz.f69]
 by_cases h3:9999999999<n
 ·rw[if_pos (.inr h3)]
  refine zG Tryz.tab Tryz.mixed Tryz.func69 rfl rfl Tryz.ntmps69 (by simp) (by simp) fun Q hr hn=>?_
  repeat' first|((first|refine O _ ?_|refine O _ _ ?_|(clear O;refine O _ ?_));clear O)|(refine zJ fun K O=>?_)|((first|refine zH ?_|refine zN rfl (by kernel_rfl) ?_|refine zM ?_|refine zK (by kernel_rfl) ?_);simp only[vZ,vY,strip])|((first|refine wIs fun K O=>?_|refine wOs fun K O=>?_|refine wQs fun K O=>?_|refine zW ?_|refine zX ?_|refine zY ?_|refine zL ?_);simp[h1,h1',h2,h3])|(refine wIn ?_;refine And.intro (by kernel_rfl) ?_;try simp only[zZ])|refine zQ ?_|refine zS ?_|((first|refine zI ?_|refine zO ?_|refine zP ?_);try simp)|((first|refine zR ?_|refine wOn ?_|refine wQn ?_);try simp only[zZ])
  all_goals apply hr
  all_goals simp[Tryz.f69]
 rw[if_neg (by omega)]
 have c1:=itoa_con (n:=n) (by simp[rgt];omega)
 obtain⟨s1,s2,s3⟩:=itoa_pw h2 h3
 have hlen:(nbr p n).length=p.length+10:=by rw[nbr,List.length_append,pw_len]
 have c3:=check_con (nbr p n) (by omega)
 have hw:IntKind.i64.wrap (10-((itoa n).length:Int))=((10-(itoa n).length:Nat):Int):=by rw[zF] <;> omega
 have c2:=rep_con (10-(itoa n).length) (by omega)
 have e:p++(List.replicate (10-(itoa n).length) 48++itoa n)=nbr p n:=by rw[s3];rfl
 have hs1:p.length+(10-(itoa n).length)<=9223372036854775807:=by omega
 have hs2:p.length+(10-(itoa n).length)+(itoa n).length<=9223372036854775807:=by omega
 have hs3:p.length+(10-(itoa n).length+(itoa n).length)<=9223372036854775807:=by omega
 generalize nbr p n=t at c3 e ⊢
 generalize itoa n=s at c1 hw c2 e hs1 hs2 hs3
 generalize 10-s.length=c at hw c2 e hs1 hs2 hs3
 by_cases h4:chk t=0
 ·rw[if_pos h4]
  rw[h4] at c3
  refine zG Tryz.tab Tryz.mixed Tryz.func69 rfl rfl Tryz.ntmps69 (by simp) (by simp) fun Q hr hn=>?_
  repeat' first|((first|refine O _ ?_|refine O _ _ ?_|(clear O;refine O _ ?_));clear O)|(refine zJ fun K O=>?_)|((first|refine zH ?_|refine zN rfl (by kernel_rfl) ?_|refine zM ?_|refine zK (by kernel_rfl) ?_);simp only[vZ,vY,strip])|((first|refine wIs fun K O=>?_|refine wOs fun K O=>?_|refine wQs fun K O=>?_|refine zW ?_|refine zX ?_|refine zY ?_|refine zL ?_);simp[h1,h1',h2,h3,hw,hs1,hs2,hs3,e])|(refine wIn ?_;refine And.intro (by kernel_rfl) ?_;try simp only[zZ])|refine zQ ?_|refine zS ?_|((first|refine zI ?_|refine zO ?_|refine zP ?_);try simp)|((first|refine zR ?_|refine wOn ?_|refine wQn ?_);try simp only[zZ])|refine zU.p c1 rfl ?_|refine zU.l c1 rfl ?_|refine zT.p c1 rfl ?_|refine zT.l c1 rfl ?_|refine zU.o c1 ?_|refine zV.p c1 rfl ?_|refine zV.l c1 rfl ?_|refine zV.o c1 ?_|refine zU.p c2 rfl ?_|refine zU.l c2 rfl ?_|refine zT.p c2 rfl ?_|refine zT.l c2 rfl ?_|refine zU.o c2 ?_|refine zV.p c2 rfl ?_|refine zV.l c2 rfl ?_|refine zV.o c2 ?_|refine zU.p c3 rfl ?_|refine zU.l c3 rfl ?_|refine zT.p c3 rfl ?_|refine zT.l c3 rfl ?_|refine zU.o c3 ?_|refine zV.p c3 rfl ?_|refine zV.l c3 rfl ?_|refine zV.o c3 ?_
  all_goals apply hr
  all_goals simp[Tryz.f69,e]
 ·rw[if_neg h4]
  generalize chk t=q at c3 h4
  refine zG Tryz.tab Tryz.mixed Tryz.func69 rfl rfl Tryz.ntmps69 (by simp) (by simp) fun Q hr hn=>?_
  repeat' first|((first|refine O _ ?_|refine O _ _ ?_|(clear O;refine O _ ?_));clear O)|(refine zJ fun K O=>?_)|((first|refine zH ?_|refine zN rfl (by kernel_rfl) ?_|refine zM ?_|refine zK (by kernel_rfl) ?_);simp only[vZ,vY,strip])|((first|refine wIs fun K O=>?_|refine wOs fun K O=>?_|refine wQs fun K O=>?_|refine zW ?_|refine zX ?_|refine zY ?_|refine zL ?_);simp[h1,h1',h2,h3,hw,hs1,hs2,hs3,e,h4])|(refine wIn ?_;refine And.intro (by kernel_rfl) ?_;try simp only[zZ])|refine zQ ?_|refine zS ?_|((first|refine zI ?_|refine zO ?_|refine zP ?_);try simp)|((first|refine zR ?_|refine wOn ?_|refine wQn ?_);try simp only[zZ])|refine zU.p c1 rfl ?_|refine zU.l c1 rfl ?_|refine zT.p c1 rfl ?_|refine zT.l c1 rfl ?_|refine zU.o c1 ?_|refine zV.p c1 rfl ?_|refine zV.l c1 rfl ?_|refine zV.o c1 ?_|refine zU.p c2 rfl ?_|refine zU.l c2 rfl ?_|refine zT.p c2 rfl ?_|refine zT.l c2 rfl ?_|refine zU.o c2 ?_|refine zV.p c2 rfl ?_|refine zV.l c2 rfl ?_|refine zV.o c2 ?_|refine zU.p c3 rfl ?_|refine zU.l c3 rfl ?_|refine zT.p c3 rfl ?_|refine zT.l c3 rfl ?_|refine zU.o c3 ?_|refine zV.p c3 rfl ?_|refine zV.l c3 rfl ?_|refine zV.o c3 ?_
  all_goals apply hr
  all_goals simp[Tryz.f69,e]
theorem nmb_len {p:List UInt8}{n:Int}:(nmb p n).1.length<=74:=by
 unfold nmb
 by_cases h1:64<p.length
 ·rw[if_pos h1];simp
 rw[if_neg h1]
 split
 ·simp
 split
 ·show (nbr p n).length<=74
  rw[nbr,List.length_append,pw_len];omega
 ·simp
theorem nmb_good {p:List UInt8}{n:Int}(h:(nmb p n).2=0):(nmb p n).1=p++pw 10 n.toNat/\0<=n/\n<=9999999999/\chk (nmb p n).1=0:=by
 unfold nmb at h ⊢
 split at h
 ·simp at h
 rename_i h1
 rw[if_neg h1]
 split at h
 ·simp at h
 rename_i h2
 rw[if_neg h2]
 split at h
 ·rename_i h3
  rw[if_pos h3]
  exact⟨rfl,by omega,by omega,h3⟩
 ·rename_i h3;exact absurd h h3
theorem app_lt {p x y:List UInt8}:p++x<p++y ↔ x<y:=by
 induction p with
 |nil=>rfl
 |cons a p ih=>rw[List.cons_append,List.cons_append,List.cons_lt_cons_iff,ih];simp
theorem less_eq:∀ (x y:List UInt8),Op.bytesLess x y=decide (x<y)
 |[],[]=>by simp[Op.bytesLess]
 |[],y::ys=>by simp[Op.bytesLess]
 |x::xs,[]=>by simp[Op.bytesLess]
 |x::xs,y::ys=>by
  rw[Op.bytesLess,less_eq xs ys]
  simp only[List.cons_lt_cons_iff]
  by_cases h1:x<y <;> by_cases h2:x=y <;> by_cases h3:xs<ys <;> simp[h1,h2,h3]
theorem nmb_two {p:List UInt8}{n m:Int}(h:(nmb p n).2=0)(h':(nmb p m).2=0):Op.bytesLess (nmb p n).1 (nmb p m).1=decide (n<m)/\((nmb p n).1=(nmb p m).1 ↔ n=m)/\(nmb p n).1.length=p.length+10:=by
 obtain⟨a1,a2,a3,-⟩:=nmb_good h
 obtain⟨b1,b2,b3,-⟩:=nmb_good h'
 obtain⟨c1,c2⟩:=pw_lt 10 n.toNat m.toNat (by simp;omega) (by simp;omega)
 rw[less_eq,a1,b1]
 refine⟨?_,?_,by rw[List.length_append,pw_len]⟩
 ·rw[decide_eq_decide,app_lt,c1];omega
 ·rw[List.append_cancel_left_eq,c2];omega
end Go.Proofs.YtedbbcmokbogpaaGreatDoor
namespace Go.Proofs.YtedbbcmokbogpaaGreatDoor
set_option linter.unusedSimpArgs false
set_option linter.unusedVariables false
open Go Go.Av
attribute [local irreducible] Go.Av.yP Go.Av.zU Go.Av.yN Go.Av.zT Go.Av.yO Go.Av.zV Go.Av.Con
def getZ (l:List Zn)(p:List UInt8):Zn × Int:=if chk p=0 then (if (fnd l p).2=true then ((fnd l p).1,0) else (zz,6)) else (zz,chk p)
theorem getX (f:Nat)(l:List Zn)(p:List UInt8):chk p ≠ 0->getZ l p=(zz,chk p):=fun h=>by unfold getZ;rw[if_neg h]
theorem getN (l:List Zn)(p:List UInt8)(h:chk p=0)(h2:(fnd l p).2=false):getZ l p=(zz,6):=by unfold getZ;rw[if_pos h,h2];rfl
theorem getY (l:List Zn)(p:List UInt8)(h:chk p=0)(h2:(fnd l p).2=true):getZ l p=((fnd l p).1,0):=by unfold getZ;rw[if_pos h,if_pos h2]
theorem get_con (l:List Zn)(ss ms:List (List PV))(nx e n k ae an:Int)(p:List UInt8)(hp:p.length<=9223372036854775807):zD Tryz.prog 70 [.p (.agg [.sl 5 (zns l),.sl 1 ss,I nx,I e,I n,I k,.sl 4 ms,I ae,I an]),.p (SB p)] (.tup [.p (.agg (getZ l p).1.c),.p (I (getZ l p).2)]):=by
 have c1:=check_con p hp
 have c2:=find_con l p
 by_cases h:chk p=0
 ·rw[h] at c1
  cases h2:(fnd l p).2
  ·rw[getN l p h h2]
   rw[h2] at c2
   generalize (fnd l p).1=z at c2
   simp only[Zn.c,zz] at c2 ⊢
   refine zG Tryz.tab Tryz.mixed Tryz.func70 rfl rfl Tryz.ntmps70 (by simp) (by simp) fun Q hr hn=>?_
   repeat' first|((first|refine O _ ?_|refine O _ _ ?_|(clear O;refine O _ ?_));clear O)|(refine zJ fun K O=>?_)|((first|refine zH ?_|refine zN rfl (by kernel_rfl) ?_|refine zM ?_|refine zK (by kernel_rfl) ?_);simp only[vZ,vY,strip])|((first|refine wIs fun K O=>?_|refine wOs fun K O=>?_|refine wQs fun K O=>?_|refine zW ?_|refine zX ?_|refine zY ?_|refine zL ?_);simp)|(refine wIn ?_;refine And.intro (by kernel_rfl) ?_;try simp only[zZ])|refine zQ ?_|refine zS ?_|((first|refine zI ?_|refine zO ?_|refine zP ?_);try simp)|((first|refine zR ?_|refine wOn ?_|refine wQn ?_);try simp only[zZ])|refine zU.p c1 rfl ?_|refine zU.l c1 rfl ?_|refine zT.p c1 rfl ?_|refine zT.l c1 rfl ?_|refine zU.o c1 ?_|refine zV.p c1 rfl ?_|refine zV.l c1 rfl ?_|refine zV.o c1 ?_|refine zU.p c2 rfl ?_|refine zU.l c2 rfl ?_|refine zT.p c2 rfl ?_|refine zT.l c2 rfl ?_|refine zU.o c2 ?_|refine zV.p c2 rfl ?_|refine zV.l c2 rfl ?_|refine zV.o c2 ?_
   all_goals apply hr
   all_goals simp[Tryz.f70]
  ·rw[getY l p h h2]
   rw[h2] at c2
   generalize (fnd l p).1=z at c2 ⊢
   simp only[Zn.c] at c2 ⊢
   refine zG Tryz.tab Tryz.mixed Tryz.func70 rfl rfl Tryz.ntmps70 (by simp) (by simp) fun Q hr hn=>?_
   repeat' first|((first|refine O _ ?_|refine O _ _ ?_|(clear O;refine O _ ?_));clear O)|(refine zJ fun K O=>?_)|((first|refine zH ?_|refine zN rfl (by kernel_rfl) ?_|refine zM ?_|refine zK (by kernel_rfl) ?_);simp only[vZ,vY,strip])|((first|refine wIs fun K O=>?_|refine wOs fun K O=>?_|refine wQs fun K O=>?_|refine zW ?_|refine zX ?_|refine zY ?_|refine zL ?_);simp)|(refine wIn ?_;refine And.intro (by kernel_rfl) ?_;try simp only[zZ])|refine zQ ?_|refine zS ?_|((first|refine zI ?_|refine zO ?_|refine zP ?_);try simp)|((first|refine zR ?_|refine wOn ?_|refine wQn ?_);try simp only[zZ])|refine zU.p c1 rfl ?_|refine zU.l c1 rfl ?_|refine zT.p c1 rfl ?_|refine zT.l c1 rfl ?_|refine zU.o c1 ?_|refine zV.p c1 rfl ?_|refine zV.l c1 rfl ?_|refine zV.o c1 ?_|refine zU.p c2 rfl ?_|refine zU.l c2 rfl ?_|refine zT.p c2 rfl ?_|refine zT.l c2 rfl ?_|refine zU.o c2 ?_|refine zV.p c2 rfl ?_|refine zV.l c2 rfl ?_|refine zV.o c2 ?_
   all_goals apply hr
   all_goals simp[Tryz.f70]
 ·rw[getX 0 l p h]
  generalize chk p=x at h c1 ⊢
  simp only[Zn.c,zz]
  refine zG Tryz.tab Tryz.mixed Tryz.func70 rfl rfl Tryz.ntmps70 (by simp) (by simp) fun Q hr hn=>?_
  repeat' first|((first|refine O _ ?_|refine O _ _ ?_|(clear O;refine O _ ?_));clear O)|(refine zJ fun K O=>?_)|((first|refine zH ?_|refine zN rfl (by kernel_rfl) ?_|refine zM ?_|refine zK (by kernel_rfl) ?_);simp only[vZ,vY,strip])|((first|refine wIs fun K O=>?_|refine wOs fun K O=>?_|refine wQs fun K O=>?_|refine zW ?_|refine zX ?_|refine zY ?_|refine zL ?_);simp[h])|(refine wIn ?_;refine And.intro (by kernel_rfl) ?_;try simp only[zZ])|refine zQ ?_|refine zS ?_|((first|refine zI ?_|refine zO ?_|refine zP ?_);try simp)|((first|refine zR ?_|refine wOn ?_|refine wQn ?_);try simp only[zZ])|refine zU.p c1 rfl ?_|refine zU.l c1 rfl ?_|refine zT.p c1 rfl ?_|refine zT.l c1 rfl ?_|refine zU.o c1 ?_|refine zV.p c1 rfl ?_|refine zV.l c1 rfl ?_|refine zV.o c1 ?_
  all_goals apply hr
  all_goals simp[Tryz.f70]
end Go.Proofs.YtedbbcmokbogpaaGreatDoor
