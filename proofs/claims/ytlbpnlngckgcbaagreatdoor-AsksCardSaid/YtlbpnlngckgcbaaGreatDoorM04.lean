import Derived.Test.YtlbpnlngckgcbaaGreatDoorM01
set_option linter.all false
set_option maxHeartbeats 4000000
set_option maxRecDepth 100000
namespace Go.Proofs.YtlbpnlngckgcbaaGreatDoor
open Go.RowKit Go.PlainAid Go.Proofs.Tryz
variable {aA aU:Prop}
abbrev bM:=@Bool.and_eq_true
abbrev dc:=@List.append_assoc
abbrev iw:=@List.takeWhile_cons
abbrev q8:=@List.drop_succ_cons
abbrev bH:=@Bool.false_eq_true
abbrev m6:=@List.drop_zero
abbrev eh:=@List.append_nil
abbrev oY:=@Bool.and_false
abbrev m9:=@List.drop_drop
abbrev kO:=@List.cons.injEq
abbrev jP:=@List.eq_nil_of_length_eq_zero
abbrev q9:=@Nat.add_comm
abbrev eB:=@Bool.false_and
abbrev gH:=@Nat.zero_le
abbrev rb:=@List.getElem?_drop
abbrev aZ:=@List.length_append
def Cb (h:aA:=by
 rw [bh];exact h):aA:=h
structure Tk where
 text:List UInt8
 place:Nat
 word:Bool
def eW(t:Tk):List ag:=[.string (mk t.text),.int .i64 t.place,.bool t.word]
def bC(l:List Tk):List ag:=l.flatMap eW
def Uw(l:List Tk)(c:UInt8):List Tk:=match l.getLast? with
 |none=>l
 |some t=>l.dropLast++[⟨t.text++[c],t.place,t.word⟩]
def stepT(i:Nat)(c:UInt8)(x:List Tk×Bool):List Tk×Bool:=
 if dX c then (x.1,false) else if x.2&&dg c then (Uw x.1 c,x.2) else (x.1++[⟨[c],i,letter c.toNat⟩],letter c.toNat)
def ff:Nat->List UInt8->List Tk×Bool->List Tk×Bool
 |_,[],x=>x
 |i,c::r,x=>ff (i+1) r (stepT i c x)
def Kt(n:Nat):Tk:=⟨[],n,false⟩
def qh(s:ae)(k:Nat):List Tk:=(ff k ((bJ s).drop k) ([],false)).1++[Kt s.size]
def ob(l t c):Uw (l++[t]) c=l++[⟨t.text++[c],t.place,t.word⟩]:=by
 simp [Uw]
def xN:∀(r:List UInt8)(i:Nat)(l m:List Tk)(o:Bool),(o=true->m≠ [])->(ff i r (l++m,o)).1=l++(ff i r (m,o)).1:=by
 intro r
 induction r with
 |nil=>intro i l m o _;rfl
 |cons c r ih=>
  intro i l m o ho;simp only [ff,stepT]
  split
  ·exact ih _ _ _ _ ar
  split
  ·rename_i h;rw [bM] at h;have A:=ho h.1;obtain ⟨C,t,rfl⟩:∃C t,m=C++[t]:=⟨m.dropLast,m.getLast A,(List.dropLast_concat_getLast A).symm⟩;rw [<-dc,ob,ob,dc];exact ih _ _ _ _ ar
  rw [dc];exact ih _ _ _ _ ar
def sQ:∀(r:List UInt8)(i:Nat)(l:List Tk),ff i r (l,false)=ff (i+(r.takeWhile dX).length) (r.drop (r.takeWhile dX).length) (l,false):=by
 intro r
 induction r with
 |nil=>intro i l;rfl
 |cons c r ih=>
  intro i l
  cases h:dX c
  ·simp [h]
  simp only [iw,h,if_true,List.length_cons,q8]
  conv=>lhs;simp only [ff,stepT,h,if_true]
  rw [ih,show i+1+(r.takeWhile dX).length=i+((r.takeWhile dX).length+1) by omega]
def Cc(c)(h:dg c=true):dX c=false:=by
 unfold dg letter digit at h;unfold dX blank;simp at h ⊢;omega
def E5:∀(r:List UInt8)(i:Nat)(l:List Tk)(t:Tk),(ff i r (l++[t],true)).1=l++⟨t.text++r.takeWhile dg,t.place,t.word⟩::(ff (i+(r.takeWhile dg).length) (r.drop (r.takeWhile dg).length) ([],false)).1:=by
 intro r
 induction r with
 |nil=>intro i l t;simp [ff]
 |cons c r ih=>
  intro i l t
  cases h:dg c
  ·simp only [iw,h,bH,aV,List.length_nil,m6,Nat.add_zero,eh];have e:ff i (c::r) (l++[t],true)=ff i (c::r) (l++[t],false):=by
    simp only [ff,stepT,h,oY,bH,aV]
   rw [e];have:=xN (c::r) i (l++[t]) [] false ar;rw [eh] at this;rw [this];simp
  have A:=Cc c h;simp only [iw,h,if_true,List.length_cons,q8]
  conv=>lhs;simp only [ff,stepT,h,A,bH,aV,Bool.and_self,if_true,ob]
  rw [ih];simp only [dc,List.cons_append,List.nil_append];rw [show i+1+(r.takeWhile dg).length=i+((r.takeWhile dg).length+1) by omega]
def dw(t:ae):Bool:=match bJ t with
 | []=>false
 |c::_=>letter c.toNat
def tkK(s:ae)(k:Nat):Tk:=⟨bJ (cD s k),dz s k,dw (cD s k)⟩
def Ku(l:List UInt8)(k:Nat)(c:UInt8)(r:List UInt8)(h:l.drop (skip l k)=c::r):dX c=false:=by
 have:(l.drop k).drop ((l.drop k).takeWhile dX).length=c::r:=by
  rw [m9];exact h
 generalize l.drop k=m at this
 induction m with
 |nil=>simp at this
 |cons a m ih=>
  cases ha:dX a
  ·simp only [iw,ha,bH,aV,List.length_nil,m6,kO] at this;rw [<-this.1];exact ha
  simp only [iw,ha,if_true,List.length_cons,q8] at this;exact ih this
def Kv(s k)(D:k<=s.size)(h:(cD s k).size=0):qh s k=[tkK s k]:=by
 have A:(bJ s).drop (skip (bJ s) k)=[]:=by
  cases hc:(bJ s).drop (skip (bJ s) k) with
  |nil=>rfl
  |cons c r=>
   exfalso;rw [<-bh] at h;unfold cD iN at h;rw [kM,dO] at h;rw [hc] at h;simp only [cW,List.length_cons] at h
   split at h<;>omega
 have I:dz s k=s.size:=by
  have h1:s.size<=skip (bJ s) k:=by rw [<-bh];exact List.drop_eq_nil_iff.1 A
  have h2:=m3 s k D;unfold next dz at*
  omega
 unfold qh tkK;rw [sQ];have:((bJ s).drop k).drop (((bJ s).drop k).takeWhile dX).length=[]:=by rw [m9];exact A
 rw [this,I];have C:bJ (cD s k)=[]:=jP Cb;simp only [ff,List.nil_append,Kt,C];unfold dw;rw [C]
def ut(s k)(h:0<(cD s k).size):qh s k=tkK s k::qh s (next s k):=by
 cases hc:(bJ s).drop (skip (bJ s) k) with
 |nil=>
  exfalso;rw [<-bh] at h;unfold cD iN at h;rw [kM,hc] at h;simp at h
 |cons c r=>
  have I:=Ku _ _ _ _ hc;have A:bJ (cD s k)=(c::r).take (cW (c::r)):=by
   unfold cD iN;rw [kM,hc]
  have hn:next s k=skip (bJ s) k+(bJ (cD s k)).length:=by unfold next dz;rw [bh]
  unfold qh;rw [sQ];have e1:((bJ s).drop k).drop (((bJ s).drop k).takeWhile dX).length=c::r:=by rw [m9];exact hc
  have R:k+(((bJ s).drop k).takeWhile dX).length=skip (bJ s) k:=rfl;rw [e1,R];have Q:dw (cD s k)=letter c.toNat:=by
   obtain ⟨m,U⟩:∃m,cW (c::r)=m+1:=by
    simp only [cW]
    split
    ·exact ⟨_,q9 1 _⟩
    exact ⟨0,rfl⟩
   unfold dw;rw [A,U]
   rfl
  have J:∀n,(bJ s).drop (skip (bJ s) k+n)=(c::r).drop n:=fun n=>by rw [<-m9,hc]
  cases hl:letter c.toNat
  ·have Y:dg c=true\/dg c=false:=by cases dg c<;>simp
   have C:cW (c::r)=1:=by simp [cW,hl]
   have D:(bJ (cD s k)).length=1:=by rw [A,C];simp
   rw [hn,D,J 1]
   conv=>lhs;simp only [ff,stepT,I,hl,bH,aV,eB]
   have:=xN r (skip (bJ s) k+1) [⟨[c],skip (bJ s) k,false⟩] [] false ar;rw [eh] at this;simp only [List.nil_append,this,List.cons_append];unfold tkK;rw [Q,hl,A,C]
   rfl
  have C:cW (c::r)=1+(r.takeWhile dg).length:=by simp [cW,hl]
  have D:(bJ (cD s k)).length=1+(r.takeWhile dg).length:=by
   rw [A,C,dO];have:=(List.takeWhile_sublist dg (l:=r)).length_le;simp;omega
  rw [hn,D,J]
  conv=>lhs;simp only [ff,stepT,I,hl,bH,aV,eB]
  have:=E5 r (skip (bJ s) k+1) [] ⟨[c],skip (bJ s) k,true⟩;simp only [List.nil_append] at this ⊢;rw [this];unfold tkK;rw [Q,hl,A,C];have V:List.take (r.takeWhile dg).length r=r.takeWhile dg:=(List.prefix_iff_eq_take.1 (List.takeWhile_prefix dg)).symm;rw [show skip (bJ s) k+1+(r.takeWhile dg).length=skip (bJ s) k+(1+(r.takeWhile dg).length) by omega,show (c::r).drop (1+(r.takeWhile dg).length)=r.drop (r.takeWhile dg).length by rw [q9];rfl,show (c::r).take (1+(r.takeWhile dg).length)=c::r.takeWhile dg by rw [q9,List.take_succ_cons,V]]
  rfl
def iV(s:ae):List Tk:=qh s 0
def Gd(s:ae)(i:Nat):Prop:=∀j,j<i->0<(TT s j).size
def aaC(s):∀i,K s i<=s.size
 |0=>gH _
 |i+1=>m3 s (K s i) (aaC s i)
def xO(s):∀i,Gd s i->(iV s).drop i=qh s (K s i)
 |0,_=>rfl
 |i+1,h=>by
  have A:=xO s i (fun j C=>h j aj);rw [<-m9,A,ut s (K s i) (h i aj)]
  rfl
def IE(s i)(h:Gd s i):(iV s)[i]? =some ⟨bJ (TT s i),PP s i,dw (TT s i)⟩:=by
 have e:(iV s)[i]? =((iV s).drop i)[0]? :=by rw [rb];rfl
 rw [e,xO s i h]
 by_cases A:(cD s (K s i)).size=0
 ·rw [Kv s (K s i) (aaC s i) A];rfl
 rw [ut s (K s i) aj];rfl
def Kw:∀(r:List UInt8)(i:Nat)(x:List Tk×Bool),(ff i r x).1.length<=x.1.length+r.length:=by
 intro r
 induction r with
 |nil=>intro i x;simp [ff]
 |cons c r ih=>
  intro i x;have:=ih (i+1) (stepT i c x);simp only [ff];have h2:(stepT i c x).1.length<=x.1.length+1:=by
   unfold stepT
   split
   ·simp
   split
   ·unfold Uw
    split
    ·simp
    simp
    try omega
   simp
  simp only [List.length_cons];omega
def Cd(s):(iV s).length<=s.size+1:=by
 unfold iV qh;have:=Kw ((bJ s).drop 0) 0 ([],false);simp only [m6,List.length_nil,bh] at this;simp only [m6,aZ,List.length_cons,List.length_nil];omega
