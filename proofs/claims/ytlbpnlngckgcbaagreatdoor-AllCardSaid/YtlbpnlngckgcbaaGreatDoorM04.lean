import Derived.Test.YtlbpnlngckgcbaaGreatDoorM01
set_option linter.all false
set_option maxHeartbeats 4000000
set_option maxRecDepth 100000
namespace Go.Proofs.YtlbpnlngckgcbaaGreatDoor
open Go.RowKit Go.PlainAid Go.Proofs.Tryz
variable {aD bq:Prop}
abbrev bO:=@Bool.and_eq_true
abbrev ct:=@List.append_assoc
abbrev iK:=@List.takeWhile_cons
abbrev rT:=@List.drop_succ_cons
abbrev bJ:=@Bool.false_eq_true
abbrev nj:=@List.drop_zero
abbrev dU:=@List.append_nil
abbrev pB:=@Bool.and_false
abbrev nk:=@List.drop_drop
abbrev kX:=@List.cons.injEq
abbrev iL:=@List.eq_nil_of_length_eq_zero
abbrev rU:=@Nat.add_comm
abbrev eM:=@Bool.false_and
abbrev gU:=@Nat.zero_le
abbrev rV:=@List.getElem?_drop
abbrev bf:=@List.length_append
def Do (h:aD:=by
 rw [bj];exact h):aD:=h
structure Tk where
 text:List UInt8
 place:Nat
 word:Bool
def fI(t:Tk):List ag:=[an (mk t.text),au t.place,.bool t.word]
def bL(l:List Tk):List ag:=l.flatMap fI
def U4(l:List Tk)(c:UInt8):List Tk:=match l.getLast? with
 |none=>l
 |some t=>l.dropLast++[⟨t.text++[c],t.place,t.word⟩]
def stepT(i:Nat)(c:UInt8)(x:List Tk×Bool):List Tk×Bool:=
 if ej c then (x.1,false) else if x.2&&dx c then (U4 x.1 c,x.2) else (x.1++[⟨[c],i,letter c.toNat⟩],letter c.toNat)
def fq:Nat->List UInt8->List Tk×Bool->List Tk×Bool
 |_,[],x=>x
 |i,c::r,x=>fq (i+1) r (stepT i c x)
def LC(n:Nat):Tk:=⟨[],n,false⟩
def qD(s:ae)(k:Nat):List Tk:=(fq k ((bB s).drop k) ([],false)).1++[LC s.size]
def oy(l t c):U4 (l++[t]) c=l++[⟨t.text++[c],t.place,t.word⟩]:=by
 simp [U4]
def yW:∀(r:List UInt8)(i:Nat)(l m:List Tk)(o:Bool),(o=true->m≠ [])->(fq i r (l++m,o)).1=l++(fq i r (m,o)).1:=by
 intro r
 induction r with
 |nil=>intro i l m o _;rfl
 |cons c r ih=>
  intro i l m o ho;simp only [fq,stepT]
  split
  ·exact ih _ _ _ _ ar
  split
  ·rename_i h;rw [bO] at h;have A:=ho h.1;obtain ⟨C,t,rfl⟩:∃C t,m=C++[t]:=⟨m.dropLast,m.getLast A,(List.dropLast_concat_getLast A).symm⟩;rw [<-ct,oy,oy,ct];exact ih _ _ _ _ ar
  rw [ct];exact ih _ _ _ _ ar
def tF:∀(r:List UInt8)(i:Nat)(l:List Tk),fq i r (l,false)=fq (i+(r.takeWhile ej).length) (r.drop (r.takeWhile ej).length) (l,false):=by
 intro r
 induction r with
 |nil=>intro i l;rfl
 |cons c r ih=>
  intro i l
  cases h:ej c
  ·simp [h]
  simp only [iK,h,if_true,List.length_cons,rT]
  conv=>lhs;simp only [fq,stepT,h,if_true]
  rw [ih,show i+1+(r.takeWhile ej).length=i+((r.takeWhile ej).length+1) by omega]
def Dp(c)(h:dx c=true):ej c=false:=by
 unfold dx letter digit at h;unfold ej blank;simp at h ⊢;omega
def Gt:∀(r:List UInt8)(i:Nat)(l:List Tk)(t:Tk),(fq i r (l++[t],true)).1=l++⟨t.text++r.takeWhile dx,t.place,t.word⟩::(fq (i+(r.takeWhile dx).length) (r.drop (r.takeWhile dx).length) ([],false)).1:=by
 intro r
 induction r with
 |nil=>intro i l t;simp [fq]
 |cons c r ih=>
  intro i l t
  cases h:dx c
  ·simp only [iK,h,bJ,aZ,List.length_nil,nj,Nat.add_zero,dU];have e:fq i (c::r) (l++[t],true)=fq i (c::r) (l++[t],false):=by
    simp only [fq,stepT,h,pB,bJ,aZ]
   rw [e];have:=yW (c::r) i (l++[t]) [] false ar;rw [dU] at this;rw [this];simp
  have A:=Dp c h;simp only [iK,h,if_true,List.length_cons,rT]
  conv=>lhs;simp only [fq,stepT,h,A,bJ,aZ,Bool.and_self,if_true,oy]
  rw [ih];simp only [ct,List.cons_append,List.nil_append];rw [show i+1+(r.takeWhile dx).length=i+((r.takeWhile dx).length+1) by omega]
def ef(t:ae):Bool:=match bB t with
 | []=>false
 |c::_=>letter c.toNat
def tkK(s:ae)(k:Nat):Tk:=⟨bB (cI s k),dI s k,ef (cI s k)⟩
def LD(l:List UInt8)(k:Nat)(c:UInt8)(r:List UInt8)(h:l.drop (skip l k)=c::r):ej c=false:=by
 have:(l.drop k).drop ((l.drop k).takeWhile ej).length=c::r:=by
  rw [nk];exact h
 generalize l.drop k=m at this
 induction m with
 |nil=>simp at this
 |cons a m ih=>
  cases ha:ej a
  ·simp only [iK,ha,bJ,aZ,List.length_nil,nj,kX] at this;rw [<-this.1];exact ha
  simp only [iK,ha,if_true,List.length_cons,rT] at this;exact ih this
def LF(s k)(D:k<=s.size)(h:(cI s k).size=0):qD s k=[tkK s k]:=by
 have A:(bB s).drop (skip (bB s) k)=[]:=by
  cases hc:(bB s).drop (skip (bB s) k) with
  |nil=>rfl
  |cons c r=>
   exfalso;rw [<-bj] at h;unfold cI jb at h;rw [j6,eb] at h;rw [hc] at h;simp only [df,List.length_cons] at h
   split at h<;>omega
 have I:dI s k=s.size:=by
  have h1:s.size<=skip (bB s) k:=by rw [<-bj];exact List.drop_eq_nil_iff.1 A
  have h2:=ni s k D;unfold next dI at*
  omega
 unfold qD tkK;rw [tF];have:((bB s).drop k).drop (((bB s).drop k).takeWhile ej).length=[]:=by rw [nk];exact A
 rw [this,I];have C:bB (cI s k)=[]:=iL Do;simp only [fq,List.nil_append,LC,C];unfold ef;rw [C]
def vd(s k)(h:0<(cI s k).size):qD s k=tkK s k::qD s (next s k):=by
 cases hc:(bB s).drop (skip (bB s) k) with
 |nil=>
  exfalso;rw [<-bj] at h;unfold cI jb at h;rw [j6,hc] at h;simp at h
 |cons c r=>
  have I:=LD _ _ _ _ hc;have A:bB (cI s k)=(c::r).take (df (c::r)):=by
   unfold cI jb;rw [j6,hc]
  have hn:next s k=skip (bB s) k+(bB (cI s k)).length:=by unfold next dI;rw [bj]
  unfold qD;rw [tF];have e1:((bB s).drop k).drop (((bB s).drop k).takeWhile ej).length=c::r:=by rw [nk];exact hc
  have R:k+(((bB s).drop k).takeWhile ej).length=skip (bB s) k:=rfl;rw [e1,R];have Q:ef (cI s k)=letter c.toNat:=by
   obtain ⟨m,U⟩:∃m,df (c::r)=m+1:=by
    simp only [df]
    split
    ·exact ⟨_,rU 1 _⟩
    exact ⟨0,rfl⟩
   unfold ef;rw [A,U]
   rfl
  have J:∀n,(bB s).drop (skip (bB s) k+n)=(c::r).drop n:=fun n=>by rw [<-nk,hc]
  cases hl:letter c.toNat
  ·have Y:dx c=true\/dx c=false:=by cases dx c<;>simp
   have C:df (c::r)=1:=by simp [df,hl]
   have D:(bB (cI s k)).length=1:=by rw [A,C];simp
   rw [hn,D,J 1]
   conv=>lhs;simp only [fq,stepT,I,hl,bJ,aZ,eM]
   have:=yW r (skip (bB s) k+1) [⟨[c],skip (bB s) k,false⟩] [] false ar;rw [dU] at this;simp only [List.nil_append,this,List.cons_append];unfold tkK;rw [Q,hl,A,C]
   rfl
  have C:df (c::r)=1+(r.takeWhile dx).length:=by simp [df,hl]
  have D:(bB (cI s k)).length=1+(r.takeWhile dx).length:=by
   rw [A,C,eb];have:=(List.takeWhile_sublist dx (l:=r)).length_le;simp;omega
  rw [hn,D,J]
  conv=>lhs;simp only [fq,stepT,I,hl,bJ,aZ,eM]
  have:=Gt r (skip (bB s) k+1) [] ⟨[c],skip (bB s) k,true⟩;simp only [List.nil_append] at this ⊢;rw [this];unfold tkK;rw [Q,hl,A,C];have V:List.take (r.takeWhile dx).length r=r.takeWhile dx:=(List.prefix_iff_eq_take.1 (List.takeWhile_prefix dx)).symm;rw [show skip (bB s) k+1+(r.takeWhile dx).length=skip (bB s) k+(1+(r.takeWhile dx).length) by omega,show (c::r).drop (1+(r.takeWhile dx).length)=r.drop (r.takeWhile dx).length by rw [rU];rfl,show (c::r).take (1+(r.takeWhile dx).length)=c::r.takeWhile dx by rw [rU,List.take_succ_cons,V]]
  rfl
def jC(s:ae):List Tk:=qD s 0
def Gd(s:ae)(i:Nat):Prop:=∀j,j<i->0<(TT s j).size
def aaE(s):∀i,K s i<=s.size
 |0=>gU _
 |i+1=>ni s (K s i) (aaE s i)
def yX(s):∀i,Gd s i->(jC s).drop i=qD s (K s i)
 |0,_=>rfl
 |i+1,h=>by
  have A:=yX s i (fun j C=>h j ai);rw [<-nk,A,vd s (K s i) (h i ai)]
  rfl
def JK(s i)(h:Gd s i):(jC s)[i]? =some ⟨bB (TT s i),PP s i,ef (TT s i)⟩:=by
 have e:(jC s)[i]? =((jC s).drop i)[0]? :=by rw [rV];rfl
 rw [e,yX s i h]
 by_cases A:(cI s (K s i)).size=0
 ·rw [LF s (K s i) (aaE s i) A];rfl
 rw [vd s (K s i) ai];rfl
def LG:∀(r:List UInt8)(i:Nat)(x:List Tk×Bool),(fq i r x).1.length<=x.1.length+r.length:=by
 intro r
 induction r with
 |nil=>intro i x;simp [fq]
 |cons c r ih=>
  intro i x;have:=ih (i+1) (stepT i c x);simp only [fq];have h2:(stepT i c x).1.length<=x.1.length+1:=by
   unfold stepT
   split
   ·simp
   split
   ·unfold U4
    split
    ·simp
    simp
    try omega
   simp
  simp only [List.length_cons];omega
def Dq(s):(jC s).length<=s.size+1:=by
 unfold jC qD;have:=LG ((bB s).drop 0) 0 ([],false);simp only [nj,List.length_nil,bj] at this;simp only [nj,bf,List.length_cons,List.length_nil];omega
