/- Texts that the proof needs: NC. -/
import Derived.Test.YtpihbhacmokekaaGreatDoorP23ReconfTakes
namespace Go.Proofs.YtpihbhacmokekaaGreatDoor
set_option linter.unusedSimpArgs false
set_option linter.unusedVariables false
open Go Go.Av
attribute [local irreducible] Go.Av.yJ Go.Av.zU Go.Av.yC Go.Av.zQ Go.Av.yG Go.Av.zV Go.Av.Con
def rgz (z:Zn):Bool:=decide (chk z.p=0/\(z.d.length:Int)<=128/\0<=z.v/\z.v<=1099511627776/\0<=z.k/\z.k<=1099511627776/\0<=z.o)
theorem right07_con (z:Zn)(hz:long z):zE Tryz.prog 76 [.p (.agg z.c)] (.p (B (rgz z))):=by
 have c1:=check03_con z.p hz.1
 unfold rgz Zn.c
 by_cases q0:chk z.p=0
 rotate_left
 ·rw[show decide (chk z.p=0/\(z.d.length:Int)<=128/\0<=z.v/\z.v<=1099511627776/\0<=z.k/\z.k<=1099511627776/\0<=z.o)=false from decide_eq_false fun h=>q0 h.1]
  refine zG Tryz.tab Tryz.mixed Tryz.func76 rfl rfl Tryz.ntmps76 (by simp) (by simp) fun Q hr hn=>?_
  repeat' first|((first|refine O _ ?_|refine O _ _ ?_|(clear O;refine O _ ?_));clear O)|(refine zJ fun K O=>?_)|((first|refine zH ?_|refine zN rfl (by kernel_rfl) ?_|refine zM ?_|refine zK (by kernel_rfl) ?_);simp only[vS,vR,strip])|((first|refine wIs fun K O=>?_|refine wOs fun K O=>?_|refine wQs fun K O=>?_|refine zW ?_|refine zX ?_|refine zY ?_|refine zL ?_);simp[q0])|(refine wIn ?_;refine And.intro (by kernel_rfl) ?_;try simp only[zZ])|refine zR ?_|refine zT ?_|((first|refine zI ?_|refine zO ?_|refine zP ?_);try simp)|((first|refine zS ?_|refine wOn ?_|refine wQn ?_);try simp only[zZ])|refine zU.p c1 rfl ?_|refine zU.l c1 rfl ?_|refine zQ.pure c1 rfl ?_|refine zQ.lent c1 rfl ?_|refine zU.o c1 ?_|refine zV.p c1 rfl ?_|refine zV.l c1 rfl ?_|refine zV.o c1 ?_
  all_goals apply hr
  all_goals simp[Tryz.f76]
 by_cases q1:(z.d.length:Int)<=128
 rotate_left
 ·rw[show decide (chk z.p=0/\(z.d.length:Int)<=128/\0<=z.v/\z.v<=1099511627776/\0<=z.k/\z.k<=1099511627776/\0<=z.o)=false from decide_eq_false fun h=>q1 h.2.1]
  refine zG Tryz.tab Tryz.mixed Tryz.func76 rfl rfl Tryz.ntmps76 (by simp) (by simp) fun Q hr hn=>?_
  repeat' first|((first|refine O _ ?_|refine O _ _ ?_|(clear O;refine O _ ?_));clear O)|(refine zJ fun K O=>?_)|((first|refine zH ?_|refine zN rfl (by kernel_rfl) ?_|refine zM ?_|refine zK (by kernel_rfl) ?_);simp only[vS,vR,strip])|((first|refine wIs fun K O=>?_|refine wOs fun K O=>?_|refine wQs fun K O=>?_|refine zW ?_|refine zX ?_|refine zY ?_|refine zL ?_);simp[q0,q1])|(refine wIn ?_;refine And.intro (by kernel_rfl) ?_;try simp only[zZ])|refine zR ?_|refine zT ?_|((first|refine zI ?_|refine zO ?_|refine zP ?_);try simp)|((first|refine zS ?_|refine wOn ?_|refine wQn ?_);try simp only[zZ])|refine zU.p c1 rfl ?_|refine zU.l c1 rfl ?_|refine zQ.pure c1 rfl ?_|refine zQ.lent c1 rfl ?_|refine zU.o c1 ?_|refine zV.p c1 rfl ?_|refine zV.l c1 rfl ?_|refine zV.o c1 ?_
  all_goals apply hr
  all_goals simp[Tryz.f76]
 by_cases q2:0<=z.v
 rotate_left
 ·rw[show decide (chk z.p=0/\(z.d.length:Int)<=128/\0<=z.v/\z.v<=1099511627776/\0<=z.k/\z.k<=1099511627776/\0<=z.o)=false from decide_eq_false fun h=>q2 h.2.2.1]
  refine zG Tryz.tab Tryz.mixed Tryz.func76 rfl rfl Tryz.ntmps76 (by simp) (by simp) fun Q hr hn=>?_
  repeat' first|((first|refine O _ ?_|refine O _ _ ?_|(clear O;refine O _ ?_));clear O)|(refine zJ fun K O=>?_)|((first|refine zH ?_|refine zN rfl (by kernel_rfl) ?_|refine zM ?_|refine zK (by kernel_rfl) ?_);simp only[vS,vR,strip])|((first|refine wIs fun K O=>?_|refine wOs fun K O=>?_|refine wQs fun K O=>?_|refine zW ?_|refine zX ?_|refine zY ?_|refine zL ?_);simp[q0,q1,q2])|(refine wIn ?_;refine And.intro (by kernel_rfl) ?_;try simp only[zZ])|refine zR ?_|refine zT ?_|((first|refine zI ?_|refine zO ?_|refine zP ?_);try simp)|((first|refine zS ?_|refine wOn ?_|refine wQn ?_);try simp only[zZ])|refine zU.p c1 rfl ?_|refine zU.l c1 rfl ?_|refine zQ.pure c1 rfl ?_|refine zQ.lent c1 rfl ?_|refine zU.o c1 ?_|refine zV.p c1 rfl ?_|refine zV.l c1 rfl ?_|refine zV.o c1 ?_
  all_goals apply hr
  all_goals simp[Tryz.f76]
 by_cases q3:z.v<=1099511627776
 rotate_left
 ·rw[show decide (chk z.p=0/\(z.d.length:Int)<=128/\0<=z.v/\z.v<=1099511627776/\0<=z.k/\z.k<=1099511627776/\0<=z.o)=false from decide_eq_false fun h=>q3 h.2.2.2.1]
  refine zG Tryz.tab Tryz.mixed Tryz.func76 rfl rfl Tryz.ntmps76 (by simp) (by simp) fun Q hr hn=>?_
  repeat' first|((first|refine O _ ?_|refine O _ _ ?_|(clear O;refine O _ ?_));clear O)|(refine zJ fun K O=>?_)|((first|refine zH ?_|refine zN rfl (by kernel_rfl) ?_|refine zM ?_|refine zK (by kernel_rfl) ?_);simp only[vS,vR,strip])|((first|refine wIs fun K O=>?_|refine wOs fun K O=>?_|refine wQs fun K O=>?_|refine zW ?_|refine zX ?_|refine zY ?_|refine zL ?_);simp[q0,q1,q2,q3])|(refine wIn ?_;refine And.intro (by kernel_rfl) ?_;try simp only[zZ])|refine zR ?_|refine zT ?_|((first|refine zI ?_|refine zO ?_|refine zP ?_);try simp)|((first|refine zS ?_|refine wOn ?_|refine wQn ?_);try simp only[zZ])|refine zU.p c1 rfl ?_|refine zU.l c1 rfl ?_|refine zQ.pure c1 rfl ?_|refine zQ.lent c1 rfl ?_|refine zU.o c1 ?_|refine zV.p c1 rfl ?_|refine zV.l c1 rfl ?_|refine zV.o c1 ?_
  all_goals apply hr
  all_goals simp[Tryz.f76]
 by_cases q4:0<=z.k
 rotate_left
 ·rw[show decide (chk z.p=0/\(z.d.length:Int)<=128/\0<=z.v/\z.v<=1099511627776/\0<=z.k/\z.k<=1099511627776/\0<=z.o)=false from decide_eq_false fun h=>q4 h.2.2.2.2.1]
  refine zG Tryz.tab Tryz.mixed Tryz.func76 rfl rfl Tryz.ntmps76 (by simp) (by simp) fun Q hr hn=>?_
  repeat' first|((first|refine O _ ?_|refine O _ _ ?_|(clear O;refine O _ ?_));clear O)|(refine zJ fun K O=>?_)|((first|refine zH ?_|refine zN rfl (by kernel_rfl) ?_|refine zM ?_|refine zK (by kernel_rfl) ?_);simp only[vS,vR,strip])|((first|refine wIs fun K O=>?_|refine wOs fun K O=>?_|refine wQs fun K O=>?_|refine zW ?_|refine zX ?_|refine zY ?_|refine zL ?_);simp[q0,q1,q2,q3,q4])|(refine wIn ?_;refine And.intro (by kernel_rfl) ?_;try simp only[zZ])|refine zR ?_|refine zT ?_|((first|refine zI ?_|refine zO ?_|refine zP ?_);try simp)|((first|refine zS ?_|refine wOn ?_|refine wQn ?_);try simp only[zZ])|refine zU.p c1 rfl ?_|refine zU.l c1 rfl ?_|refine zQ.pure c1 rfl ?_|refine zQ.lent c1 rfl ?_|refine zU.o c1 ?_|refine zV.p c1 rfl ?_|refine zV.l c1 rfl ?_|refine zV.o c1 ?_
  all_goals apply hr
  all_goals simp[Tryz.f76]
 by_cases q5:z.k<=1099511627776
 rotate_left
 ·rw[show decide (chk z.p=0/\(z.d.length:Int)<=128/\0<=z.v/\z.v<=1099511627776/\0<=z.k/\z.k<=1099511627776/\0<=z.o)=false from decide_eq_false fun h=>q5 h.2.2.2.2.2.1]
  refine zG Tryz.tab Tryz.mixed Tryz.func76 rfl rfl Tryz.ntmps76 (by simp) (by simp) fun Q hr hn=>?_
  repeat' first|((first|refine O _ ?_|refine O _ _ ?_|(clear O;refine O _ ?_));clear O)|(refine zJ fun K O=>?_)|((first|refine zH ?_|refine zN rfl (by kernel_rfl) ?_|refine zM ?_|refine zK (by kernel_rfl) ?_);simp only[vS,vR,strip])|((first|refine wIs fun K O=>?_|refine wOs fun K O=>?_|refine wQs fun K O=>?_|refine zW ?_|refine zX ?_|refine zY ?_|refine zL ?_);simp[q0,q1,q2,q3,q4,q5])|(refine wIn ?_;refine And.intro (by kernel_rfl) ?_;try simp only[zZ])|refine zR ?_|refine zT ?_|((first|refine zI ?_|refine zO ?_|refine zP ?_);try simp)|((first|refine zS ?_|refine wOn ?_|refine wQn ?_);try simp only[zZ])|refine zU.p c1 rfl ?_|refine zU.l c1 rfl ?_|refine zQ.pure c1 rfl ?_|refine zQ.lent c1 rfl ?_|refine zU.o c1 ?_|refine zV.p c1 rfl ?_|refine zV.l c1 rfl ?_|refine zV.o c1 ?_
  all_goals apply hr
  all_goals simp[Tryz.f76]
 by_cases q6:0<=z.o
 rotate_left
 ·rw[show decide (chk z.p=0/\(z.d.length:Int)<=128/\0<=z.v/\z.v<=1099511627776/\0<=z.k/\z.k<=1099511627776/\0<=z.o)=false from decide_eq_false fun h=>q6 h.2.2.2.2.2.2]
  refine zG Tryz.tab Tryz.mixed Tryz.func76 rfl rfl Tryz.ntmps76 (by simp) (by simp) fun Q hr hn=>?_
  repeat' first|((first|refine O _ ?_|refine O _ _ ?_|(clear O;refine O _ ?_));clear O)|(refine zJ fun K O=>?_)|((first|refine zH ?_|refine zN rfl (by kernel_rfl) ?_|refine zM ?_|refine zK (by kernel_rfl) ?_);simp only[vS,vR,strip])|((first|refine wIs fun K O=>?_|refine wOs fun K O=>?_|refine wQs fun K O=>?_|refine zW ?_|refine zX ?_|refine zY ?_|refine zL ?_);simp[q0,q1,q2,q3,q4,q5,q6])|(refine wIn ?_;refine And.intro (by kernel_rfl) ?_;try simp only[zZ])|refine zR ?_|refine zT ?_|((first|refine zI ?_|refine zO ?_|refine zP ?_);try simp)|((first|refine zS ?_|refine wOn ?_|refine wQn ?_);try simp only[zZ])|refine zU.p c1 rfl ?_|refine zU.l c1 rfl ?_|refine zQ.pure c1 rfl ?_|refine zQ.lent c1 rfl ?_|refine zU.o c1 ?_|refine zV.p c1 rfl ?_|refine zV.l c1 rfl ?_|refine zV.o c1 ?_
  all_goals apply hr
  all_goals simp[Tryz.f76]
 rw[show decide (chk z.p=0/\(z.d.length:Int)<=128/\0<=z.v/\z.v<=1099511627776/\0<=z.k/\z.k<=1099511627776/\0<=z.o)=true from decide_eq_true ⟨q0,q1,q2,q3,q4,q5,q6⟩]
 refine zG Tryz.tab Tryz.mixed Tryz.func76 rfl rfl Tryz.ntmps76 (by simp) (by simp) fun Q hr hn=>?_
 repeat' first|((first|refine O _ ?_|refine O _ _ ?_|(clear O;refine O _ ?_));clear O)|(refine zJ fun K O=>?_)|((first|refine zH ?_|refine zN rfl (by kernel_rfl) ?_|refine zM ?_|refine zK (by kernel_rfl) ?_);simp only[vS,vR,strip])|((first|refine wIs fun K O=>?_|refine wOs fun K O=>?_|refine wQs fun K O=>?_|refine zW ?_|refine zX ?_|refine zY ?_|refine zL ?_);simp[q0,q1,q2,q3,q4,q5,q6])|(refine wIn ?_;refine And.intro (by kernel_rfl) ?_;try simp only[zZ])|refine zR ?_|refine zT ?_|((first|refine zI ?_|refine zO ?_|refine zP ?_);try simp)|((first|refine zS ?_|refine wOn ?_|refine wQn ?_);try simp only[zZ])|refine zU.p c1 rfl ?_|refine zU.l c1 rfl ?_|refine zQ.pure c1 rfl ?_|refine zQ.lent c1 rfl ?_|refine zU.o c1 ?_|refine zV.p c1 rfl ?_|refine zV.l c1 rfl ?_|refine zV.o c1 ?_
 all_goals apply hr
 all_goals simp[Tryz.f76]
def hld (l:List Zn)(z:Zn):Bool:=(par z.p).2 && ((fnd l (par z.p).1).2 && decide ((fnd l (par z.p).1).1.o=0))
end Go.Proofs.YtpihbhacmokekaaGreatDoor
