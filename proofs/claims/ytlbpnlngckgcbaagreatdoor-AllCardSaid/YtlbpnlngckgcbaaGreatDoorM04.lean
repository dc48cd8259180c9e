import Derived.Test.YtlbpnlngckgcbaaGreatDoorM01
set_option linter.all false
set_option maxHeartbeats 4000000
set_option maxRecDepth 100000
namespace Go.Proofs.YtlbpnlngckgcbaaGreatDoor
open Go.RowKit Go.PlainAid Go.Proofs.Tryz
variable {aD br:Prop}
abbrev bP:=@Bool.and_eq_true
abbrev ct:=@List.append_assoc
abbrev iE:=@List.takeWhile_cons
abbrev ri:=@List.drop_succ_cons
abbrev bJ:=@Bool.false_eq_true
abbrev m4:=@List.drop_zero
abbrev dS:=@List.append_nil
abbrev pe:=@Bool.and_false
abbrev m5:=@List.drop_drop
abbrev kT:=@List.cons.injEq
abbrev iF:=@List.eq_nil_of_length_eq_zero
abbrev rj:=@Nat.add_comm
abbrev eK:=@Bool.false_and
abbrev gS:=@Nat.zero_le
abbrev ru:=@List.getElem?_drop
abbrev bg:=@List.length_append
def CM (h:aD:=by
 rw [bk];exact h):aD:=h
structure Tk where
 text:List UInt8
 place:Nat
 word:Bool
def fH(t:Tk):List ag:=[aj (mk t.text),ar t.place,.bool t.word]
def bM(l:List Tk):List ag:=l.flatMap fH
def Uy(l:List Tk)(c:UInt8):List Tk:=match l.getLast? with
 |none=>l
 |some t=>l.dropLast++[⟨t.text++[c],t.place,t.word⟩]
def stepT(i:Nat)(c:UInt8)(x:List Tk×Bool):List Tk×Bool:=
 if eh c then (x.1,false) else if x.2&&dx c then (Uy x.1 c,x.2) else (x.1++[⟨[c],i,letter c.toNat⟩],letter c.toNat)
def fw:Nat->List UInt8->List Tk×Bool->List Tk×Bool
 |_,[],x=>x
 |i,c::r,x=>fw (i+1) r (stepT i c x)
def K8(n:Nat):Tk:=⟨[],n,false⟩
def qg(s:ae)(k:Nat):List Tk:=(fw k ((bB s).drop k) ([],false)).1++[K8 s.size]
def oe(l t c):Uy (l++[t]) c=l++[⟨t.text++[c],t.place,t.word⟩]:=by
 simp [Uy]
def yk:∀(r:List UInt8)(i:Nat)(l m:List Tk)(o:Bool),(o=true->m≠ [])->(fw i r (l++m,o)).1=l++(fw i r (m,o)).1:=by
 intro r
 induction r with
 |nil=>intro i l m o _;rfl
 |cons c r ih=>
  intro i l m o ho;simp only [fw,stepT]
  split
  ·exact ih _ _ _ _ au
  split
  ·rename_i h;rw [bP] at h;have A:=ho h.1;obtain ⟨C,t,rfl⟩:∃C t,m=C++[t]:=⟨m.dropLast,m.getLast A,(List.dropLast_concat_getLast A).symm⟩;rw [<-ct,oe,oe,ct];exact ih _ _ _ _ au
  rw [ct];exact ih _ _ _ _ au
def sV:∀(r:List UInt8)(i:Nat)(l:List Tk),fw i r (l,false)=fw (i+(r.takeWhile eh).length) (r.drop (r.takeWhile eh).length) (l,false):=by
 intro r
 induction r with
 |nil=>intro i l;rfl
 |cons c r ih=>
  intro i l
  cases h:eh c
  ·simp [h]
  simp only [iE,h,if_true,List.length_cons,ri]
  conv=>lhs;simp only [fw,stepT,h,if_true]
  rw [ih,show i+1+(r.takeWhile eh).length=i+((r.takeWhile eh).length+1) by omega]
def CN(c)(h:dx c=true):eh c=false:=by
 unfold dx letter digit at h;unfold eh blank;simp at h ⊢;omega
def FW:∀(r:List UInt8)(i:Nat)(l:List Tk)(t:Tk),(fw i r (l++[t],true)).1=l++⟨t.text++r.takeWhile dx,t.place,t.word⟩::(fw (i+(r.takeWhile dx).length) (r.drop (r.takeWhile dx).length) ([],false)).1:=by
 intro r
 induction r with
 |nil=>intro i l t;simp [fw]
 |cons c r ih=>
  intro i l t
  cases h:dx c
  ·simp only [iE,h,bJ,a8,List.length_nil,m4,Nat.add_zero,dS];have e:fw i (c::r) (l++[t],true)=fw i (c::r) (l++[t],false):=by
    simp only [fw,stepT,h,pe,bJ,a8]
   rw [e];have:=yk (c::r) i (l++[t]) [] false au;rw [dS] at this;rw [this];simp
  have A:=CN c h;simp only [iE,h,if_true,List.length_cons,ri]
  conv=>lhs;simp only [fw,stepT,h,A,bJ,a8,Bool.and_self,if_true,oe]
  rw [ih];simp only [ct,List.cons_append,List.nil_append];rw [show i+1+(r.takeWhile dx).length=i+((r.takeWhile dx).length+1) by omega]
def ec(t:ae):Bool:=match bB t with
 | []=>false
 |c::_=>letter c.toNat
def tkK(s:ae)(k:Nat):Tk:=⟨bB (cI s k),dH s k,ec (cI s k)⟩
def K9(l:List UInt8)(k:Nat)(c:UInt8)(r:List UInt8)(h:l.drop (skip l k)=c::r):eh c=false:=by
 have:(l.drop k).drop ((l.drop k).takeWhile eh).length=c::r:=by
  rw [m5];exact h
 generalize l.drop k=m at this
 induction m with
 |nil=>simp at this
 |cons a m ih=>
  cases ha:eh a
  ·simp only [iE,ha,bJ,a8,List.length_nil,m4,kT] at this;rw [<-this.1];exact ha
  simp only [iE,ha,if_true,List.length_cons,ri] at this;exact ih this
def La(s k)(D:k<=s.size)(h:(cI s k).size=0):qg s k=[tkK s k]:=by
 have A:(bB s).drop (skip (bB s) k)=[]:=by
  cases hc:(bB s).drop (skip (bB s) k) with
  |nil=>rfl
  |cons c r=>
   exfalso;rw [<-bk] at h;unfold cI i7 at h;rw [j2,dZ] at h;rw [hc] at h;simp only [dg,List.length_cons] at h
   split at h<;>omega
 have I:dH s k=s.size:=by
  have h1:s.size<=skip (bB s) k:=by rw [<-bk];exact List.drop_eq_nil_iff.1 A
  have h2:=m3 s k D;unfold next dH at*
  omega
 unfold qg tkK;rw [sV];have:((bB s).drop k).drop (((bB s).drop k).takeWhile eh).length=[]:=by rw [m5];exact A
 rw [this,I];have C:bB (cI s k)=[]:=iF CM;simp only [fw,List.nil_append,K8,C];unfold ec;rw [C]
def uC(s k)(h:0<(cI s k).size):qg s k=tkK s k::qg s (next s k):=by
 cases hc:(bB s).drop (skip (bB s) k) with
 |nil=>
  exfalso;rw [<-bk] at h;unfold cI i7 at h;rw [j2,hc] at h;simp at h
 |cons c r=>
  have I:=K9 _ _ _ _ hc;have A:bB (cI s k)=(c::r).take (dg (c::r)):=by
   unfold cI i7;rw [j2,hc]
  have hn:next s k=skip (bB s) k+(bB (cI s k)).length:=by unfold next dH;rw [bk]
  unfold qg;rw [sV];have e1:((bB s).drop k).drop (((bB s).drop k).takeWhile eh).length=c::r:=by rw [m5];exact hc
  have R:k+(((bB s).drop k).takeWhile eh).length=skip (bB s) k:=rfl;rw [e1,R];have Q:ec (cI s k)=letter c.toNat:=by
   obtain ⟨m,U⟩:∃m,dg (c::r)=m+1:=by
    simp only [dg]
    split
    ·exact ⟨_,rj 1 _⟩
    exact ⟨0,rfl⟩
   unfold ec;rw [A,U]
   rfl
  have J:∀n,(bB s).drop (skip (bB s) k+n)=(c::r).drop n:=fun n=>by rw [<-m5,hc]
  cases hl:letter c.toNat
  ·have Y:dx c=true\/dx c=false:=by cases dx c<;>simp
   have C:dg (c::r)=1:=by simp [dg,hl]
   have D:(bB (cI s k)).length=1:=by rw [A,C];simp
   rw [hn,D,J 1]
   conv=>lhs;simp only [fw,stepT,I,hl,bJ,a8,eK]
   have:=yk r (skip (bB s) k+1) [⟨[c],skip (bB s) k,false⟩] [] false au;rw [dS] at this;simp only [List.nil_append,this,List.cons_append];unfold tkK;rw [Q,hl,A,C]
   rfl
  have C:dg (c::r)=1+(r.takeWhile dx).length:=by simp [dg,hl]
  have D:(bB (cI s k)).length=1+(r.takeWhile dx).length:=by
   rw [A,C,dZ];have:=(List.takeWhile_sublist dx (l:=r)).length_le;simp;omega
  rw [hn,D,J]
  conv=>lhs;simp only [fw,stepT,I,hl,bJ,a8,eK]
  have:=FW r (skip (bB s) k+1) [] ⟨[c],skip (bB s) k,true⟩;simp only [List.nil_append] at this ⊢;rw [this];unfold tkK;rw [Q,hl,A,C];have V:List.take (r.takeWhile dx).length r=r.takeWhile dx:=(List.prefix_iff_eq_take.1 (List.takeWhile_prefix dx)).symm;rw [show skip (bB s) k+1+(r.takeWhile dx).length=skip (bB s) k+(1+(r.takeWhile dx).length) by omega,show (c::r).drop (1+(r.takeWhile dx).length)=r.drop (r.takeWhile dx).length by rw [rj];rfl,show (c::r).take (1+(r.takeWhile dx).length)=c::r.takeWhile dx by rw [rj,List.take_succ_cons,V]]
  rfl
def jz(s:ae):List Tk:=qg s 0
def Gd(s:ae)(i:Nat):Prop:=∀j,j<i->0<(TT s j).size
def aac(s):∀i,K s i<=s.size
 |0=>gS _
 |i+1=>m3 s (K s i) (aac s i)
def yo(s):∀i,Gd s i->(jz s).drop i=qg s (K s i)
 |0,_=>rfl
 |i+1,h=>by
  have A:=yo s i (fun j C=>h j ai);rw [<-m5,A,uC s (K s i) (h i ai)]
  rfl
def Jg(s i)(h:Gd s i):(jz s)[i]? =some ⟨bB (TT s i),PP s i,ec (TT s i)⟩:=by
 have e:(jz s)[i]? =((jz s).drop i)[0]? :=by rw [ru];rfl
 rw [e,yo s i h]
 by_cases A:(cI s (K s i)).size=0
 ·rw [La s (K s i) (aac s i) A];rfl
 rw [uC s (K s i) ai];rfl
def Lb:∀(r:List UInt8)(i:Nat)(x:List Tk×Bool),(fw i r x).1.length<=x.1.length+r.length:=by
 intro r
 induction r with
 |nil=>intro i x;simp [fw]
 |cons c r ih=>
  intro i x;have:=ih (i+1) (stepT i c x);simp only [fw];have h2:(stepT i c x).1.length<=x.1.length+1:=by
   unfold stepT
   split
   ·simp
   split
   ·unfold Uy
    split
    ·simp
    simp
    try omega
   simp
  simp only [List.length_cons];omega
def CO(s):(jz s).length<=s.size+1:=by
 unfold jz qg;have:=Lb ((bB s).drop 0) 0 ([],false);simp only [m4,List.length_nil,bk] at this;simp only [m4,bg,List.length_cons,List.length_nil];omega
