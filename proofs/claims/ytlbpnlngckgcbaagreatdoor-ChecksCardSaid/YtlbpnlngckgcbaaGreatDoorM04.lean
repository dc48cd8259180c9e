import Derived.Test.YtlbpnlngckgcbaaGreatDoorM01
set_option linter.all false
set_option maxHeartbeats 4000000
set_option maxRecDepth 100000
namespace Go.Proofs.YtlbpnlngckgcbaaGreatDoor
open Go.RowKit Go.PlainAid Go.Proofs.Tryz
variable {aF cD:Prop}
abbrev bO:=@Bool.and_eq_true
abbrev eI:=@List.append_assoc
abbrev pS:=@List.drop_succ_cons
abbrev bz:=@Bool.false_eq_true
abbrev mm:=@List.drop_zero
abbrev gl:=@List.append_nil
abbrev nZ:=@Bool.and_false
abbrev mo:=@List.drop_drop
abbrev ke:=@List.cons.injEq
abbrev mq:=@List.eq_nil_of_length_eq_zero
abbrev dR:=@Bool.false_and
abbrev gZ:=@Nat.zero_le
abbrev wV:=@List.getElem?_drop
abbrev bo:=@List.length_append
def yS (h:aF:=by
 rw [bf];exact h):aF:=h
structure Tk where
 text:List UInt8
 place:Nat
 word:Bool
def eZ(t:Tk):List ag:=[.string (mk t.text),.int .i64 t.place,.bool t.word]
def br(l:List Tk):List ag:=l.flatMap eZ
def NI(l:List Tk)(c:UInt8):List Tk:=match l.getLast? with
 |none=>l
 |some t=>l.dropLast++[⟨t.text++[c],t.place,t.word⟩]
def stepT(i:Nat)(c:UInt8)(x:List Tk×Bool):List Tk×Bool:=
 if dK c then (x.1,false) else if x.2&&dt c then (NI x.1 c,x.2) else (x.1++[⟨[c],i,letter c.toNat⟩],letter c.toNat)
def fd:Nat->List UInt8->List Tk×Bool->List Tk×Bool
 |_,[],x=>x
 |i,c::r,x=>fd (i+1) r (stepT i c x)
def F1(n:Nat):Tk:=⟨[],n,false⟩
def oZ(s:ae)(k:Nat):List Tk:=(fd k ((bW s).drop k) ([],false)).1++[F1 s.size]
theorem na(l t c):NI (l++[t]) c=l++[⟨t.text++[c],t.place,t.word⟩]:=by
 simp [NI]
theorem vo:∀(r:List UInt8)(i:Nat)(l m:List Tk)(o:Bool),(o=true->m≠ [])->(fd i r (l++m,o)).1=l++(fd i r (m,o)).1:=by
 intro r
 induction r with
 |nil=>intro i l m o _;rfl
 |cons c r ih=>
  intro i l m o ho;simp only [fd,stepT]
  split
  ·exact ih _ _ _ _ an
  split
  ·rename_i C;rw [bO] at C;have D:=ho C.1;obtain ⟨I,t,rfl⟩:∃I t,m=I++[t]:=⟨m.dropLast,m.getLast D,(List.dropLast_concat_getLast D).symm⟩;rw [<-eI,na,na,eI];exact ih _ _ _ _ an
  rw [eI];exact ih _ _ _ _ an
theorem qW:∀(r:List UInt8)(i:Nat)(l:List Tk),fd i r (l,false)=fd (i+(r.takeWhile dK).length) (r.drop (r.takeWhile dK).length) (l,false):=by
 intro r
 induction r with
 |nil=>intro i l;rfl
 |cons c r ih=>
  intro i l
  cases h:dK c
  ·simp [ig,h]
  simp only [ig,h,if_true,List.length_cons,pS]
  conv=>lhs;simp only [fd,stepT,h,if_true]
  rw [ih,show i+1+(r.takeWhile dK).length=i+((r.takeWhile dK).length+1) by omega]
theorem yT(c)(h:dt c=true):dK c=false:=by
 unfold dt letter digit at h;unfold dK blank;simp at h ⊢;omega
theorem BO:∀(r:List UInt8)(i:Nat)(l:List Tk)(t:Tk),(fd i r (l++[t],true)).1=l++⟨t.text++r.takeWhile dt,t.place,t.word⟩::(fd (i+(r.takeWhile dt).length) (r.drop (r.takeWhile dt).length) ([],false)).1:=by
 intro r
 induction r with
 |nil=>intro i l t;simp [fd]
 |cons c r ih=>
  intro i l t
  cases C:dt c
  ·simp only [ig,C,bz,aP,List.length_nil,mm,Nat.add_zero,gl];have e:fd i (c::r) (l++[t],true)=fd i (c::r) (l++[t],false):=by
    simp only [fd,stepT,C,nZ,bz,aP]
   rw [e];have:=vo (c::r) i (l++[t]) [] false an;rw [gl] at this;rw [this];simp
  have D:=yT c C;simp only [ig,C,if_true,List.length_cons,pS]
  conv=>lhs;simp only [fd,stepT,C,D,bz,aP,Bool.and_self,if_true,na]
  rw [ih];simp only [eI,List.cons_append,List.nil_append];rw [show i+1+(r.takeWhile dt).length=i+((r.takeWhile dt).length+1) by omega]
def bM(t:ae):Bool:=match bW t with
 | []=>false
 |c::_=>letter c.toNat
def Tb(s:ae)(k:Nat):Tk:=⟨bW (bT s k),cC s k,bM (bT s k)⟩
theorem F2(l:List UInt8)(k:Nat)(c:UInt8)(r:List UInt8)(h:l.drop (skip l k)=c::r):dK c=false:=by
 have:(l.drop k).drop ((l.drop k).takeWhile dK).length=c::r:=by
  rw [mo];exact h
 generalize l.drop k=m at this;clear h
 induction m with
 |nil=>simp at this
 |cons a m ih=>
  cases ha:dK a
  ·simp only [ig,ha,bz,aP,List.length_nil,mm,ke] at this;rw [<-this.1];exact ha
  simp only [ig,ha,if_true,List.length_cons,pS] at this;exact ih this
theorem F3(s k)(D:k<=s.size)(h:(bT s k).size=0):oZ s k=[Tb s k]:=by
 have A:(bW s).drop (skip (bW s) k)=[]:=by
  cases hc:(bW s).drop (skip (bW s) k) with
  |nil=>rfl
  |cons c r=>
   exfalso;rw [<-bf] at h;unfold bT jm at h;rw [si,gj] at h;rw [hc] at h;simp only [dV,List.length_cons] at h
   split at h<;>omega
 have I:cC s k=s.size:=by
  have h1:s.size<=skip (bW s) k:=by rw [<-bf];exact List.drop_eq_nil_iff.1 A
  have h2:=mj s k D;unfold next cC at*
  omega
 unfold oZ Tb;rw [qW];have:((bW s).drop k).drop (((bW s).drop k).takeWhile dK).length=[]:=by rw [mo];exact A
 rw [this,I];have C:bW (bT s k)=[]:=mq yS;simp only [fd,List.nil_append,F1,C];unfold bM;rw [C]
theorem sx(s k)(I:0<(bT s k).size):oZ s k=Tb s k::oZ s (next s k):=by
 cases hc:(bW s).drop (skip (bW s) k) with
 |nil=>
  exfalso;rw [<-bf] at I;unfold bT jm at I;rw [si,hc] at I;simp at I
 |cons c r=>
  have O:=F2 _ _ _ _ hc;have C:bW (bT s k)=(c::r).take (dV (c::r)):=by
   unfold bT jm;rw [si,hc]
  have hn:next s k=skip (bW s) k+(bW (bT s k)).length:=by unfold next cC;rw [bf]
  unfold oZ;rw [qW];have e1:((bW s).drop k).drop (((bW s).drop k).takeWhile dK).length=c::r:=by rw [mo];exact hc
  have U:k+(((bW s).drop k).takeWhile dK).length=skip (bW s) k:=rfl;rw [e1,U];have R:bM (bT s k)=letter c.toNat:=by
   obtain ⟨m,V⟩:∃m,dV (c::r)=m+1:=by
    simp only [dV]
    split
    ·exact ⟨_,Nat.add_comm 1 _⟩
    exact ⟨0,rfl⟩
   unfold bM;rw [C,V]
   rfl
  have Q:∀n,(bW s).drop (skip (bW s) k+n)=(c::r).drop n:=fun n=>by rw [<-mo,hc]
  cases hl:letter c.toNat
  ·have Z:dt c=true\/dt c=false:=by cases dt c<;>simp
   have D:dV (c::r)=1:=by simp [dV,hl]
   have J:(bW (bT s k)).length=1:=by rw [C,D];simp
   rw [hn,J,Q 1]
   conv=>lhs;simp only [fd,stepT,O,hl,bz,aP,dR]
   have:=vo r (skip (bW s) k+1) [⟨[c],skip (bW s) k,false⟩] [] false an;rw [gl] at this;simp only [List.nil_append,this,List.cons_append];unfold Tb;rw [R,hl,C,D]
   rfl
  have D:dV (c::r)=1+(r.takeWhile dt).length:=by simp [dV,hl]
  have J:(bW (bT s k)).length=1+(r.takeWhile dt).length:=by
   rw [C,D,gj];have:=(List.takeWhile_sublist dt (l:=r)).length_le;simp;omega
  rw [hn,J,Q]
  conv=>lhs;simp only [fd,stepT,O,hl,bz,aP,dR]
  have:=BO r (skip (bW s) k+1) [] ⟨[c],skip (bW s) k,true⟩;simp only [List.nil_append] at this ⊢;rw [this];unfold Tb;rw [R,hl,C,D];have Y:List.take (r.takeWhile dt).length r=r.takeWhile dt:=(List.prefix_iff_eq_take.1 (List.takeWhile_prefix dt)).symm;rw [show skip (bW s) k+1+(r.takeWhile dt).length=skip (bW s) k+(1+(r.takeWhile dt).length) by omega,show (c::r).drop (1+(r.takeWhile dt).length)=r.drop (r.takeWhile dt).length by rw [Nat.add_comm];rfl,show (c::r).take (1+(r.takeWhile dt).length)=c::r.takeWhile dt by rw [Nat.add_comm,List.take_succ_cons,Y]]
  rfl
def g2(s:ae):List Tk:=oZ s 0
def Gd(s:ae)(i:Nat):Prop:=∀j,j<i->0<(TT s j).size
theorem Tc(s):∀i,K s i<=s.size
 |0=>gZ _
 |i+1=>mj s (K s i) (Tc s i)
theorem vp(s):∀i,Gd s i->(g2 s).drop i=oZ s (K s i)
 |0,_=>rfl
 |i+1,h=>by
  have C:=vp s i (fun j D=>h j aj);rw [<-mo,C,sx s (K s i) (h i aj)]
  rfl
theorem Ew(s i)(C:Gd s i):(g2 s)[i]? =some ⟨bW (TT s i),PP s i,bM (TT s i)⟩:=by
 have e:(g2 s)[i]? =((g2 s).drop i)[0]? :=by rw [wV];rfl
 rw [e,vp s i C]
 by_cases D:(bT s (K s i)).size=0
 ·rw [F3 s (K s i) (Tc s i) D];rfl
 rw [sx s (K s i) aj];rfl
theorem F4:∀(r:List UInt8)(i:Nat)(x:List Tk×Bool),(fd i r x).1.length<=x.1.length+r.length:=by
 intro r
 induction r with
 |nil=>intro i x;simp [fd]
 |cons c r ih=>
  intro i x;have:=ih (i+1) (stepT i c x);simp only [fd];have h2:(stepT i c x).1.length<=x.1.length+1:=by
   unfold stepT
   split
   ·simp
   split
   ·unfold NI
    split
    ·simp
    simp
    try omega
   simp
  simp only [List.length_cons];omega
theorem sy(s):(g2 s).length<=s.size+1:=by
 unfold g2 oZ;have:=F4 ((bW s).drop 0) 0 ([],false);simp only [mm,List.length_nil,bf] at this;simp only [mm,bo,List.length_cons,List.length_nil];omega
