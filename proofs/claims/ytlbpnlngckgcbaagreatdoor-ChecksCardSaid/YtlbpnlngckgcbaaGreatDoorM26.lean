import Derived.Test.YtlbpnlngckgcbaaGreatDoorM22
import Derived.Test.YtlbpnlngckgcbaaGreatDoorM23
set_option linter.all false
set_option maxHeartbeats 4000000
set_option maxRecDepth 100000
namespace Go.Proofs.YtlbpnlngckgcbaaGreatDoor
open Go.RowKit Go.PlainAid Go.Proofs.Tryz
variable {base b i d a f n F m j g q:Nat} {w:af} {s:ae} {tv kv rv pv:ag} {rl:List RV} {pl:List PV} {l:List PX} {aF cD:Prop} {ts:List Ty} {t:Ty} {r:Rl} {α:Type}
def Lp(kl:List (ae×Nat))(rl:List RV)(pl:List PV)(ts:List Ty):Prop:=
 ∃(h:Nat->List Gr)(A:Nat->List Nat)(D:RV->Nat->Prop)(C:RV->Nat->Nat),mR rl pl h/\RF rl pl A/\tK kl rl=kq (zx [] ts)/\(zx [] ts=none->jO kl rl pl h A=eA (gI ts) ts/\(eA (gI ts) ts=none->ku rl pl h A/\(∀x∈rl,Dj rl pl h A x (D x) (C x))/\loopsR rl pl h A C rl 0 (-1)=kq (eA (i6 ts) ts)))
def Lq(s:ae)(w:af)(e:Ending)(w':af):Prop:=Below w.heap.size w w'/\(match ej (TT s) (PP s) with
 | .error (c,jj)=>c≠0/\e=.returned (.tuple #[.pointer none,.int .i64 c,.int .i64 (PP s jj)])
 | .ok (ts,m)=>match gt ts with
  |some (p,c)=>e=.returned (.tuple #[.pointer none,.int .i64 c,.int .i64 p])
  |none=>∃b kv rv pv kl rl pl l,e=.returned (.tuple #[.pointer (some ⟨b,5,none⟩),.int .i64 0,.int .i64 0])/\DM w' b kv rv pv kl rl pl l/\tL pl kl rl ts/\Gd s m/\(∃cs,aB w' b cs 252)/\∀x∈l,jh w.heap.size x)
theorem RM.dm{e kl}(h:RM base w b s tv i d e a kv rv pv kl rl pl l)(h1:kl.length<=5)(h2:rl.length<=500)(A:pl.length<=500):DM w b kv rv pv kl rl pl l:=by
 obtain ⟨_,_,_,_,_,c5,c6,c7⟩:=h.rs.blk.eight;exact ⟨c5,c6,c7,ec h.kt,ec h.rt,⟨h.pt.fst,ec h.pt.row,h.pt.rep⟩,h1,h2,A⟩
theorem Dm(s w)(hs:500<s.size):Calls prog 80 #[.string s] w fun e w'=>e=.returned (.tuple #[.pointer none,.int .i64 1,.int .i64 0])/\Below w.heap.size w w':=by
 have C:(500:Int)<(s.size:Int):=aj;go_enter func80,ntmps80;go_wp2;go_ret3;exact ⟨rfl,aw _ _⟩
theorem Hb(s w)(hs:s.size<=500)(aE:∀kl rl pl ts m,ej (TT s) (PP s)=.ok (ts,m)->Gd s m->tL pl kl rl ts->Lp kl rl pl ts):Calls prog 80 #[.string s] w (Lq s w):=by
 have bt:¬((500:Int)<(s.size:Int)):=aj;have aA:=ai aE;have C:=ai (zf s w hs);have ba:=ai hs;clear aE hs;go_enter func80,ntmps80;go_wp2_with fail;refine (ak C).mono ?_;rintro e w1 ⟨v,rfl,ad,au⟩;obtain ⟨ta,tc,rfl⟩:=ay au;have aH:=ad.alloc ad.size (.cells #[.slice ta (g2 s).length tc,.int .i64 0,.int .i64 0,.int .i64 0,.int .i64 0,.slice none 0 0,.slice none 0 0,.slice none 0 0] 252);have bk:=ad.size;have aG:=ai (show RM w.heap.size (w1.alloc (.cells #[.slice ta (g2 s).length tc,.int .i64 0,.int .i64 0,.int .i64 0,.int .i64 0,.slice none 0 0,.slice none 0 0,.slice none 0 0] 252)) w1.heap.size s (.slice ta (g2 s).length tc) 0 0 0 0 (.slice none 0 0) (.slice none 0 0) (.slice none 0 0) [] [] [] [] from
  ⟨⟨aB.new w1 _ _,ec (au.alloc _),fun j br=>aj,⟨⟨_,_,_,rfl⟩,⟨_,_,_,rfl⟩,⟨_,_,_,rfl⟩⟩,ba.u⟩,⟨rfl,bN,an⟩,bN,bN,an⟩)
 have av:=ai aH;have aw:=ai (C5 w.heap.size w1.heap.size s _ _ _ _ [] _ aG.u bk aM);clear ad au C aH aG;go_wp2_with fail;refine aw.u.mono ?_;rintro e bn ⟨rfl,aL,kv,rv,pv,kl,rl,pl,l,j,aI,bp,af,ae⟩;have ab:=ai (av.u.trans aL);have aX:=ab.u.size;obtain ⟨bv,bw,bx,r3,bz,bA,bB,bC⟩:=af.rs.blk.eight;have U:=ai af;have bs:=af.rs.lt;generalize bi:w1.heap.size=b at*;clear bi aL af aw av
 cases O:ej (TT s) (PP s) with
 |error er=>
  obtain ⟨c,bu⟩:=er;rw [O] at ae;obtain ⟨hc,rfl,rfl⟩:=ae;have bj:¬((aI:Int)=0):=aj;have bq:((aI:Int) != 0)=true:=g8.2 bj;have R:=ai O;clear O;go_wp2
  go_quiet (fail)
  go_wp2;go_ret3;exact ⟨below_drewN ab.u _,by rw [R.u];exact ⟨aj,rfl⟩⟩
 |ok y=>
  obtain ⟨ts,m⟩:=y;rw [O] at ae;obtain ⟨rfl,rfl,h1,h2,bh,ar⟩:=ae;obtain ⟨ax,aW,bg,bl,aJ,aK,aU,aQ⟩:=aA.u kl rl pl ts _ O U.u.rs.gd ar;have am:=ai (U.u.dm h1 h2 bh);have a7:=ai ar;have a4:=ai U.u.rs.gd;have a2:=ai U.u.rs.blk;have a3:=ai U.u.fh;have R:=ai O;have az:=ai aJ;have a5:=ai aK;have aC:=ai aQ;have C:=ai (C3 b kv rv pv kl rl pl l bn am.u);rw [aU] at C;clear O ar aJ aK aU aQ U aA
  cases Q:zx [] ts with
  |some p=>
   rw [Q] at C;have Z:=ai Q;unfold kq at C;simp only at C;clear Q;have aP:(0:Int)<=(p:Int):=aj;go_wp2_with fail;refine (ak C).mono ?_;rintro e a0 ⟨rfl,D⟩;have V:=ai (ab.u.trans (D.mono aX));clear D C;go_wp2;go_ret3;exact ⟨V.u,by rw [R.u];simp only [gt,Z.u];rfl⟩
  |none=>
   rw [Q] at C;have Z:=ai Q;obtain ⟨aO,aR⟩:=aC.u Q;have aD:=ai aR;have a8:=ai aO;unfold kq at C;simp only at C;clear Q aC aO aR;go_wp2_with fail;refine (ak C).mono ?_;rintro e a0 ⟨rfl,D⟩;have V:=ai (ab.u.trans (D.mono aX));have aY:=V.u.size;have ah:=ai (am.u.below D);have bc:=ai (a2.u.below D);clear D C;have C:=ai (De b kv rv pv kl rl pl l ax aW a0 ah.u az.u a5.u);rw [a8.u] at C
   cases hn:eA (gI ts) ts with
   |some p=>
    rw [hn] at C;have ac:=ai hn;unfold kq at C;simp only at C;clear hn;have aP:(0:Int)<=(p:Int):=aj;go_wp2_with fail;refine (ak C).mono ?_;rintro e w5 ⟨rfl,I⟩;have Y:=ai (V.u.trans (I.mono aY));clear I C;go_wp2;go_ret3;exact ⟨Y.u,by rw [R.u];simp only [gt,Z.u,ac.u];rfl⟩
   |none=>
    rw [hn] at C;have ac:=ai hn;obtain ⟨aS,aT,aN⟩:=aD.u hn;have a9:=ai aS;have bb:=ai aT;have a6:=ai aN;unfold kq at C;simp only at C;clear hn aD aS aT aN;go_wp2_with fail;refine (ak C).mono ?_;rintro e w5 ⟨rfl,I⟩;have Y:=ai (V.u.trans (I.mono aY));have aZ:=Y.u.size;have al:=ai (ah.u.below I);have be:=ai (bc.u.below I);clear I C ah am;have C:=ai (Dl b kv rv pv kl rl pl l ax aW bg bl w5 al.u az.u a9.u bb.u);rw [a6.u] at C
    cases hl:eA (i6 ts) ts with
    |some p=>
     rw [hl] at C;have ap:=ai hl;unfold kq at C;simp only at C;clear hl;have aP:(0:Int)<=(p:Int):=aj;go_wp2_with fail;refine (ak C).mono ?_;rintro e bo ⟨rfl,J⟩;have ag:=ai (Y.u.trans (J.mono aZ));clear J C;go_wp2;go_ret3;exact ⟨ag.u,by rw [R.u];simp only [gt,Z.u,ac.u,ap.u];rfl⟩
    |none=>
     rw [hl] at C;have ap:=ai hl;unfold kq at C;simp only at C;clear hl;go_wp2_with fail;refine (ak C).mono ?_;rintro e bo ⟨rfl,J⟩;have ag:=ai (Y.u.trans (J.mono aZ));have a1:=ai (al.u.below J);have bf:=ai (be.u.below J);clear J C al;go_wp2;go_ret3;exact ⟨ag.u,by rw [R.u];simp only [gt,Z.u,ac.u,ap.u];exact ⟨b,kv,rv,pv,kl,rl,pl,l,rfl,a1.u,a7.u,a4.u,⟨_,bf.u⟩,a3.u⟩⟩
def Lr (C:aF:=by
 rcases bA.1 hx with rfl|hx
 ·exact hn
 exact fun hm=>h1 x hx E5):aF:=C
def Ls (A:aF:=by
 cases e:eqs g.rel em
 ·rfl
 rw [(bn _ _).1 e,Fa] at h2;cases h2):aF:=A
structure eN(ts:List Ty):Prop where
 ty:ts.Pairwise fun t u=>t.name≠u.name
 rl:∀t∈ts,t.rels.Pairwise fun r q=>r.name≠q.name
theorem An:∀(l:List (ae×Nat)) (ah:List ae),Nq ah l=none->(∀x∈l,x.1∉ah)/\l.Pairwise fun x y=>x.1≠y.1
 | [],ah,_=>⟨an,an⟩
 |(n,p)::l,ah,h=>by
  rw [Nq] at h
  cases D:(ah.any fun m=>eqs m n)
  ·rw [D] at h;simp only [bz,aP] at h;obtain ⟨h1,h2⟩:=An l _ h;have hn:n∉ah:=fun hm=>by
    rw [iW] at D;exact D n hm ((bn _ _).2 rfl)
   refine ⟨fun x hx=> ?_,?_⟩
   ·exact Lr
   rw [oH];exact ⟨fun y I e=>h1 y I (by simp at e;simp [e]),h2⟩
  rw [D] at h;simp at h
theorem mU:∀(l:List Ty)(ah:List ae),zx ah l=none->(∀t∈l,t.name∉ah)/\eN l
 | [],ah,_=>⟨an,an,an⟩
 |t::l,ah,h=>by
  rw [zx] at h
  cases D:(ah.any fun m=>eqs m t.name)
  ·rw [D] at h;simp only [bz,aP] at h;have hn:t.name∉ah:=fun hm=>by
    rw [iW] at D;exact D _ hm ((bn _ _).2 rfl)
   unfold Tq at h
   cases I:Nq [] (t.rels.map fun r=>(r.name,r.place)) with
   |some p=>rw [I] at h;simp at h
   |none=>
    rw [I] at h;simp only at h;obtain ⟨h1,h2⟩:=mU l _ h;obtain ⟨_,J⟩:=An _ _ I;rw [List.pairwise_map] at J;refine ⟨fun x hx=> ?_,?_,?_⟩
    ·exact Lr
    ·rw [oH];exact ⟨fun y O e=>h1 y O (by rw [<-e];simp),h2.ty⟩
    intro x hx
    rcases bA.1 hx with rfl|hx
    ·exact J
    exact h2.rl x hx
  rw [D] at h;simp at h
theorem cR(D:eN ts)(J:t∈ts):bL ts t.name=some t:=by
 unfold bL;obtain ⟨A,B,rfl⟩:=sV J;have C:=D.ty;rw [List.pairwise_append,oH] at C;rw [List.find?_append];have:A.find? (fun u=>eqs u.name t.name)=none:=by
  rw [List.find?_eq_none];intro u O I;exact C.2.2 u O t an ((bn _ _).1 I)
 rw [this];simp [(bn t.name t.name).2 rfl]
theorem oJ(C:t.rels.Pairwise fun r q=>r.name≠q.name)(I:r∈t.rels):bP t r.name=some r:=by
 unfold bP;obtain ⟨A,B,e⟩:=sV I;rw [e] at C ⊢;rw [List.pairwise_append,oH] at C;rw [List.find?_append];have:A.find? (fun u=>eqs u.name r.name)=none:=by
  rw [List.find?_eq_none];intro u J D;exact C.2.2 u J r an ((bn _ _).1 D)
 rw [this];simp [(bn r.name r.name).2 rfl]
theorem cV{k}(h:bL ts k=some t):t∈ts/\t.name=k:=⟨gm h,(bn _ _).1 (List.find?_some (p:=fun t:Ty=>eqs t.name k) h)⟩
theorem cB{n}(h:bP t n=some r):r∈t.rels/\r.name=n:=⟨gm h,(bn _ _).1 (List.find?_some (p:=fun r:Rl=>eqs r.name n) h)⟩
theorem tV{pl}(k n):∀(rl:List RV) (ps:List (ae×Rl)) (i:Nat),cO pl rl ps->(aU k n rl i= -1/\∀p∈ps,¬(p.1=k/\p.2.name=n))\/∃j p,aU k n rl i=((i+j:Nat):Int)/\ps[j]? =some p/\p.1=k/\p.2.name=n
 | [],[],i,_=> .inl ⟨rfl,an⟩
 |x::rl,p::ps,i,h=>by
  obtain ⟨⟨h1,h2,_,_⟩,J⟩:=h;rw [aU]
  by_cases C:(eqs x.kd k&&eqs x.nm n)=true
  ·rw [if_pos C];rw [bO,bn,bn] at C;exact .inr ⟨0,p,an,an,h1▸C.1,h2▸C.2⟩
  rw [if_neg C]
  rcases tV k n rl ps (i+1) J with ⟨e,R⟩|⟨j,q,e,O,Q⟩
  ·refine .inl ⟨e,fun q D=> ?_⟩
   rcases bA.1 D with rfl|D
   ·rintro ⟨e1,I⟩;exact C (by rw [bO,bn,bn,h1,h2];exact ⟨e1,I⟩)
   exact R q D
  exact .inr ⟨j+1,q,by rw [e];omega,by simpa using O,Q⟩
 | [],_::_,_,h=>h.elim
 |_::_,[],_,h=>h.elim
theorem dv{p:ae×Rl}:p∈bh ts↔∃t∈ts,t.name=p.1/\p.2∈t.rels:=by
 unfold bh;rw [cb]
 constructor
 ·rintro ⟨t,A,C⟩;obtain ⟨r,h,rfl⟩:=aY.1 C;exact ⟨t,A,rfl,h⟩
 rintro ⟨t,A,e,h⟩;exact ⟨t,A,aY.2 ⟨p.2,h,by rw [e]⟩⟩
theorem cS(A:eN ts)(J:cO pl rl (bh ts))(k n):
  (aU k n rl 0= -1/\∀t,bL ts k=some t->bP t n=none)\/∃(j:Nat)(t:Ty)(r:Rl),aU k n rl 0=j/\bL ts k=some t/\bP t n=some r/\(bh ts)[j]? =some (k,r):=by
 rcases tV k n rl _ 0 J with ⟨e,R⟩|⟨j,p,e,C,h1,h2⟩
 ·refine .inl ⟨e,fun t h=> ?_⟩
  cases U:bP t n with
  |none=>rfl
  |some r=>
   obtain ⟨Q,O⟩:=cV h;obtain ⟨V,hn⟩:=cB U;exact absurd ⟨rfl,hn⟩ (R (k,r) (dv.2 ⟨t,Q,O,V⟩))
 ·obtain ⟨t,h,D,I⟩:=dv.1 (bx C);refine .inr ⟨j,t,p.2,by simpa using e,?_,?_,?_⟩
  ·rw [<-h1,<-D];exact cR A h
  ·rw [<-h2];exact oJ (A.rl t h) I
  rw [C,<-h1]
theorem wo(x):((ts.map fun t=>(t.name,t.place)).any fun k=>eqs k.1 x)=(bL ts x).isSome:=by
 unfold bL;exact J8
def jP(g:Gr):Prop:=(g.reach=0/\g.rel=em)\/g.reach=1\/(g.reach=2/\c9 g.rel=true)
theorem Fa:c9 em=false:=by decide
theorem wq:c9 (sg 42)=false:=by decide
theorem qB{g}(C:g.reach=2):b9 g=g.rel:=by unfold b9;rw [if_neg aj]
theorem Ao(O:eN ts)(Q:cO pl rl (bh ts))(g)(R:jP g):nJ (ts.map fun t=>(t.name,t.place)) rl g=k8 ts g:=by
 unfold nJ k8;rw [wo]
 cases D:bL ts g.ty with
 |none=>simp
 |some t=>
  simp only [Option.isSome_some,Bool.true_eq_false,aP]
  rcases R with ⟨h1,h2⟩|h1|⟨h1,h2⟩
  ·have e:b9 g=em:=by unfold b9;rw [if_neg aj,h2]
   rw [e,(bn em em).2 rfl,h1];simp
  ·have e:b9 g=sg 42:=by unfold b9;rw [if_pos h1]
   rw [e,(bn (sg 42) (sg 42)).2 rfl,h1];simp
  rw [qB h1,h1];have e1:eqs g.rel em=false:=by
   exact Ls
  have I:eqs g.rel (sg 42)=false:=by
   cases e:eqs g.rel (sg 42)
   ·rfl
   rw [(bn _ _).1 e,wq] at h2;cases h2
  rw [e1,I]
  rcases cS O Q g.ty g.rel with ⟨e,U⟩|⟨j,V,r,e,C,J,_⟩
  ·rw [e,U t D];simp
  rw [D] at C;simp only [aK] at C;subst C;rw [e,J];have:¬((j:Int)<0):=aj;simp [this]
def Dn (A:aF:=by
 unfold ef;rw [hx,dG];exact qC _ _ (dJ pl F _ _ htr)):aF:=A
theorem tW{α β:Type}{f g:α->List β}:∀{l:List α},(∀a∈l,f a=g a)->l.flatMap f=l.flatMap g
 | [],_=>rfl
 |a::l,h=>by
  rw [cq,cq,h a an,tW (fun b C=>h b (by simp [C]))]
theorem Tr.kids{x p}(D:Tr pl (f+1) n x)(R:pl[n]? =some p):∀m∈p.ps,∃y,Tr pl f m y:=by
 obtain ⟨Y,I,D⟩:=D;rw [R] at I;simp only [aK] at I;subst I;intro m hm
 rcases D with ⟨h1,hn,h2⟩|⟨h1,h0,hn,h2⟩|⟨h1,h0,hn,h2⟩|⟨h1,h0,U,ns,x0,rs,h3,h4,h5,J,O,Q⟩|⟨h1,h0,V,U,ns,x0,rs,h3,h4,h5,J,O,Q⟩
 ·rw [hn.1] at hm;simp at hm
 ·rw [hn.1] at hm;simp at hm
 ·rw [hn.1] at hm;simp at hm
 ·exact xQ
 exact xQ
theorem tX(pl):∀(f n:Nat)(x:Ex),Tr pl f n x->aD pl (f+1) n=aD pl f n
 |0,_,_,h=>h.elim
 |f+1,n,x,h=>by
  obtain ⟨p,A,_⟩:=id h;have C:=h.kids A;rw [aD,aD,A];simp only
  split
  ·exact tW (fun m D=>by obtain ⟨y,I⟩:=C m D;exact tX pl f m y I)
  rfl
theorem jQ(pl){x}(h:Tr pl f n x)(hF:f<=F):aD pl F n=aD pl f n:=by
 obtain ⟨d,rfl⟩:=Nat.exists_eq_add_of_le hF;clear hF
 induction d with
 |zero=>rfl
 |succ d ih=>rw [<-ih];exact tX pl _ _ _ (Tr.le pl (Nat.le_add_right f d) h)
def cP(pl:List PV)(F:Nat):List RV->List (ae×Rl)->Prop
 | [],[]=>True
 |x::xs,p::ps=>(x.kd=p.1/\x.nm=p.2.name/\x.pl=p.2.place/\Tr pl F x.ex p.2.body)/\cP pl F xs ps
 |_,_=>False
theorem cP.le{pl F G}(h:F<=G):∀(xs:List RV) (ps:List (ae×Rl)),cP pl F xs ps->cP pl G xs ps
 | [],[],_=>trivial
 |x::xs,p::ps,k=>⟨⟨k.1.1,k.1.2.1,k.1.2.2.1,Tr.le pl h k.1.2.2.2⟩,cP.le h xs ps k.2⟩
 | [],_::_,k=>k.elim
 |_::_,[],k=>k.elim
theorem cO.fuel{pl:List PV}:∀(xs:List RV) (ps:List (ae×Rl)),cO pl xs ps->∃F,cP pl F xs ps
 | [],[],_=>⟨0,trivial⟩
 |x::xs,p::ps,h=>by
  obtain ⟨F,hF⟩:=cO.fuel xs ps h.2;obtain ⟨⟨h1,h2,C,f,D⟩,_⟩:=h;exact ⟨F+f,⟨h1,h2,C,Tr.le pl aj D⟩,cP.le aj xs ps hF⟩
 | [],_::_,h=>h.elim
 |_::_,[],h=>h.elim
theorem cP.get{pl:List PV}{F:Nat}:∀(xs:List RV) (ps:List (ae×Rl)) (j:Nat) (p:ae×Rl),cP pl F xs ps->ps[j]? =some p->∃x,xs[j]? =some x/\x.kd=p.1/\x.nm=p.2.name/\x.pl=p.2.place/\Tr pl F x.ex p.2.body
 | [],[],j,p,_,h=>by simp at h
 |x::xs,q::ps,0,p,k,h=>by
  simp only [List.getElem?_cons_zero,aK] at h;subst h;exact ⟨x,rfl,k.1⟩
 |x::xs,q::ps,j+1,p,k,h=>by
  rw [s8] at h;obtain ⟨y,C,A⟩:=cP.get xs ps j p k.2 h;exact ⟨y,by simpa using C,A⟩
 | [],_::_,_,_,k,_=>k.elim
 |_::_,[],_,_,k,_=>k.elim
def ef(rl:List RV)(pl:List PV)(h:Nat->List Nat)(r:Nat):List Gr:=match rl[r]? with
 |some x=>(h x.ex).flatMap (jc pl)
 |none=>[]
theorem nz{e}(h:Tr pl 1 n e):jc pl n=e7 e:=by
 obtain ⟨p,C,h⟩:=h;unfold jc;rw [C]
 rcases h with ⟨h1,hn,rfl⟩|⟨h1,h0,hn,rfl⟩|⟨h1,h0,hn,rfl⟩|⟨_,_,_,_,_,_,_,A,_⟩|⟨_,_,_,_,_,_,_,_,A,_⟩
 ·simp [e7]
 ·simp [e7,h0]
 ·simp [e7,h0]
 ·exact A.elim
 exact A.elim
theorem qC{pl:List PV}:∀(ns:List Nat)(A:List Ex),cf (Tr pl 1) ns A->ns.flatMap (jc pl)=A.flatMap e7
 | [],[],_=>rfl
 |n::ns,e::A,h=>by rw [cq,cq,nz h.1,qC ns A h.2]
 | [],_::_,h=>h.elim
 |_::_,[],h=>h.elim
theorem dG:∀(x:Ex),bZ x=(aH x).flatMap e7
 |⟨n,some x,some y⟩=>by
  have h1:=dG x;have h2:=dG y;unfold bZ at*;simp only [aA,aH,cX,cq,oA,gl,h1,h2];simp [e7]
 |⟨n,none,r⟩=>by simp [bZ,aA,aH]
 |⟨n,some x,none⟩=>by simp [bZ,aA,aH]
theorem lM{β:Type}(f:Ex->Option β)(h:∀e,e.l.isSome=true->f e=none):∀(x:Ex),(aA x).findSome? f=(aH x).findSome? f
 |⟨n,some x,some y⟩=>by
  have h1:=lM f h x;have h2:=lM f h y;simp only [aA,aH,qh,h1,h2,List.findSome?_cons,List.findSome?_nil];rw [h ⟨n,some x,some y⟩ rfl];simp
 |⟨n,none,r⟩=>by simp [aA,aH]
 |⟨n,some x,none⟩=>by simp [aA,aH]
def tY(ts:List Ty):Prop:=∀t∈ts,∀r∈t.rels,∀e∈aH r.body,∀g∈e7 e,jP g
theorem Ap(O:eN ts)(Q:cO pl rl (bh ts))(y g)(R:jP g):
  (gV rl y g=[]/\ip ts y g=none)\/∃(j:Nat)(u:Ty)(r:Rl),gV rl y g=[j]/\ip ts y g=some u/\bP u y=some r/\(bh ts)[j]? =some (u.name,r):=by
 unfold gV ip
 rcases R with ⟨h1,h2⟩|h1|⟨h1,h2⟩
 ·have e:b9 g=em:=by unfold b9;rw [if_neg aj,h2]
  rw [e,(bn em em).2 rfl,if_pos h1]
  rcases cS O Q g.ty y with ⟨e1,U⟩|⟨j,t,r,e1,D,I,J⟩
  ·refine .inl ⟨by rw [e1];simp,?_⟩
   cases V:bL ts g.ty with
   |none=>rfl
   |some u=>simp [U u V]
  refine .inr ⟨j,t,r,by rw [e1];simp,?_,I,?_⟩
  ·rw [D];simp [I]
  rw [(cV D).2];exact J
 ·have e:b9 g=sg 42:=by unfold b9;rw [if_pos h1]
  have C:¬(g.reach=0):=aj;exact .inl ⟨by rw [e];simp [show eqs (sg 42) em=false from by decide],if_neg C⟩
 ·have C:¬(g.reach=0):=by omega
  have e1:eqs g.rel em=false:=by
   exact Ls
  exact .inl ⟨by rw [qB h1];simp [e1],if_neg C⟩
theorem tZ{pl rl ts}(D:eN ts)(I:cO pl rl (bh ts))(y):∀(G:List Gr),(∀g∈G,jP g)->(fe rl y G=[]↔(G.filterMap (ip ts y)).length=0)
 | [],_=>by simp [fe]
 |g::G,h=>by
  have O:=tZ D I y G (fun g J=>h g (by simp [J]));unfold fe at*;rw [cq,List.filterMap_cons]
  rcases Ap D I y g (h g an) with ⟨e1,C⟩|⟨j,u,r,e1,C,_⟩
  ·rw [e1,C,List.nil_append];exact O
  rw [e1,C];simp
theorem Lt(D:eN ts)(J:cO pl rl (bh ts))(hF:cP pl F rl (bh ts))(U:tY ts)(t)(O:t∈ts)(n e)(I:Tr pl 1 n e)(ab:∀g∈e7 e,jP g):
  pp (ts.map fun t=>(t.name,t.place)) rl pl (ef rl pl (aD pl F)) t.name n=fW ts t e:=by
 obtain ⟨p,ag,I⟩:=I;unfold pp;rw [ag];simp only;unfold Db
 rcases I with ⟨h1,hn,rfl⟩|⟨h1,h0,hn,rfl⟩|⟨h1,h0,hn,rfl⟩|⟨_,_,_,_,_,_,_,C,_⟩|⟨_,_,_,_,_,_,_,_,C,_⟩
 ·have key:∀(l:List Gr),(∀g∈l,jP g)->l.findSome? (nJ (ts.map fun t=>(t.name,t.place)) rl)=l.findSome? (k8 ts):=by
   intro l hl
   induction l with
   |nil=>rfl
   |cons a l ih=>rw [gq,gq,Ao D J a (hl a an),ih (fun g U=>hl g (by simp [U]))]
  rw [key p.gs (by simpa [e7] using ab)];simp only [fW,if_true,nO,h1]
  cases p.gs.findSome? (k8 ts)<;>simp
 ·simp only [h0,List.findSome?_nil,h1,if_true,fW,Nat.reduceEqDiff,aP]
  rcases cS D J t.name p.nr with ⟨e1,V⟩|⟨j,ai,r,e1,C,Q,_⟩
  ·rw [e1,V t (cR D O)];simp
  rw [cR D O] at C;simp only [aK] at C;subst C;have:¬((j:Int)<0):=aj;rw [e1,Q];simp [this]
 ·simp only [h0,List.findSome?_nil,h1,Nat.reduceEqDiff,aP,if_true,fW,Cg]
  rcases cS D J t.name p.nb with ⟨e1,V⟩|⟨j,ai,r,e1,C,Q,Y⟩
  ·rw [e1,V t (cR D O)];simp
  rw [cR D O] at C;simp only [aK] at C;subst C;have af:¬((j:Int)<0):=aj;obtain ⟨x,hx,ak,_,_,htr⟩:=cP.get rl _ j _ hF Y;have Z:ef rl pl (aD pl F) j=bZ r.body:=by
   exact Dn
  have ah:=(cB Q).1;have ha:∀g∈bZ r.body,jP g:=by
   rw [dG];intro g ad;obtain ⟨e',ac,ae⟩:=cb.1 ad;exact U t O r ah e' ac g ae
  rw [e1,Q,if_neg af,Int.toNat_natCast,Z];simp only
  by_cases R:fe rl p.nr (bZ r.body)=[]
  ·rw [if_pos R,if_pos ((tZ D J p.nr _ ha).1 R)]
  rw [if_neg R,if_neg (fun I=>R ((tZ D J p.nr _ ha).2 I))]
 ·exact C.elim
 ·exact C.elim
theorem ua{pl rl ts F}(D:eN ts)(I:cO pl rl (bh ts))(hF:cP pl F rl (bh ts))(J:tY ts)(t)(O:t∈ts):∀(ns:List Nat)(C:List Ex),cf (Tr pl 1) ns C->(∀e∈C,∀g∈e7 e,jP g)->
  ns.findSome? (pp (ts.map fun t=>(t.name,t.place)) rl pl (ef rl pl (aD pl F)) t.name)=C.findSome? (fW ts t)
 | [],[],_,_=>rfl
 |n::ns,e::C,h,he=>by
  rw [gq,gq,Lt D I hF J t O n e h.1 (he e an),ua D I hF J t O ns C h.2 (fun e' Q=>he e' (by simp [Q]))]
 | [],_::_,h,_=>h.elim
 |_::_,[],h,_=>h.elim
theorem Do(ts t e)(h:e.l.isSome=true):fW ts t e=none:=by
 unfold fW
 cases hl:e.l with
 |none=>rw [hl] at h;simp at h
 |some x=>rfl
theorem ub(N)(g:ae×Rl->Option Nat):∀(ts:List Ty),(∀t∈ts,∀r∈t.rels,g (t.name,r)=N t r)->(bh ts).findSome? g=eA N ts
 | [],_=>rfl
 |t::ts,h=>by
  have I:=ub N g ts (fun t D=>h t (by simp [D]));have e:bh (t::ts)=(t.rels.map fun r=>(t.name,r))++bh ts:=by simp [bh]
  have key:∀(l:List Rl),(∀r∈l,r∈t.rels)->(l.map fun r=>(t.name,r)).findSome? g=l.findSome? (N t):=by
   intro l hl
   induction l with
   |nil=>rfl
   |cons a l ihl=>rw [cj,gq,gq,h t an a (hl a an),ihl (fun r C=>hl r (by simp [C]))]
  rw [e,qh,I,key t.rels (fun r C=>C)];unfold eA;rw [gq]
  cases t.rels.findSome? (N t)<;>rfl
theorem rg(I:eN ts)(Z:cO pl rl (bh ts))(hF:cP pl F rl (bh ts))(O:tY ts):
  jO (ts.map fun t=>(t.name,t.place)) rl pl (ef rl pl (aD pl F)) (aD pl F)=eA (gI ts) ts:=by
 have h1:∀(xs:List RV) (ps:List (ae×Rl)),(∀p∈ps,p∈bh ts)->cP pl F xs ps->(xs.findSome? fun x=>(aD pl F x.ex).findSome? (pp (ts.map fun t=>(t.name,t.place)) rl pl (ef rl pl (aD pl F)) x.kd))=ps.findSome? fun p=>match bL ts p.1 with
   |some t=>gI ts t p.2
   |none=>none:=by
  intro xs
  induction xs with
  |nil=>intro ps _ D;cases ps with
   |nil=>rfl
   |cons p ps=>exact D.elim
  |cons x xs ih=>intro ps Q D;cases ps with
   |nil=>exact D.elim
   |cons p ps=>
    obtain ⟨⟨h1,_,_,R⟩,U⟩:=D;obtain ⟨t,C,J,V⟩:=dv.1 (Q p an);have e:(aD pl F x.ex).findSome? (pp (ts.map fun t=>(t.name,t.place)) rl pl (ef rl pl (aD pl F)) x.kd)=gI ts t p.2:=by
     rw [h1,<-J,ua I Z hF O t C _ _ (dJ pl F _ _ R) (fun e Y=>O t C p.2 V e Y)];unfold gI;rw [lM _ (Do ts t)]
    rw [gq,gq,e,ih ps (fun q ac=>Q q (by simp [ac])) U,<-J,cR I C]
 unfold jO;rw [h1 rl (bh ts) (fun p ab=>ab) hF];exact ub (gI ts) _ ts (fun t C r ad=>by simp only [cR I C])
def Qt (h:aF:=by
 split at h
 ·split at h
  ·split at h
   ·simp at h
   rename_i y I D
   split at h
   ·simp only [dr,Prod.mk.injEq] at h;rw [<-h.1];exact hp _ _ _ D
   simp at h
  simp at h
 unfold iX at h
 split at h
 ·simp at h
 split at h
 ·split at h
  ·simp at h
  exact Lu
 exact Lu):aF:=h
def Lv (C:aF:=by
 rw [List.nil_append] at e;subst e;exact ha.sorted (fun i j D I=>Qu s j i D (fun k J=>hg k aj))):aF:=C
def Lw (A:aF:=by
 simp only [fV,aH,aT] at he
 rcases he with he|he
 ·exact ha e he
 exact hp _ _ _ hz e he):aF:=A
def Lx (A:aF:=by
 rcases aT.1 hg with hg|hg
 ·exact ha g hg
 rw [aR] at hg;rw [hg];exact h0):aF:=A
def Ly (h:aF:=by
 simp only [dr,Prod.mk.injEq] at h;obtain ⟨rfl,rfl⟩:=h;exact fun r A=> .inl A):aF:=h
def Lz (h:aF:=by
 split at h
 ·simp only [dr,Prod.mk.injEq] at h;rw [<-h.1];exact h1
 simp at h):aF:=h
def Lu (h:aF:=by
 simp only [dr,Prod.mk.injEq] at h;rw [<-h.1];intro e A g C;simp only [aH,aR] at A;subst A;simp [e7] at C):aF:=h
theorem OI(s i)(A:0<(TT s i).size):PP s i<PP s (i+1):=by
 have e:PP s (i+1)=skip (bW s) (K s (i+1)):=rfl;have h1:=Ev (bW s) (K s (i+1));have h:K s (i+1)=PP s i+(TT s i).size:=rfl;rw [e];omega
theorem Qu(s):∀(j i:Nat),i<j->Gd s j->PP s i<PP s j
 |0,i,h,_=>aj
 |j+1,i,h,hg=>by
  have h1:=OI s j (hg j aj)
  by_cases e:i=j
  ·subst e;exact h1
  have:=Qu s j i aj (fun k C=>hg k aj);omega
theorem vg(O:ej (TT s) (PP s)=.ok (ts,m))(hg:Gd s m):(gG ts).Pairwise (· < ·):=by
 obtain ⟨new,e,_,ha⟩:=oI (TT s) (PP s) 512 [] 0 ts m O;exact Lv
section
variable (T:Nat->ae)(P:Nat->Nat)
theorem Hf(i:Nat)(g:Gr)(j:Nat)(h:cW T P i=.ok (g,j)):jP g:=by
 unfold cW at h
 split at h
 ·simp at h
 split at h
 ·simp only [dr,Prod.mk.injEq] at h;rw [<-h.1];exact .inr (.inl rfl)
 split at h
 ·split at h
  ·simp at h
  rename_i u m hn;simp only [dr,Prod.mk.injEq] at h;rw [<-h.1];refine .inr (.inr ⟨rfl,?_⟩);unfold cE at hn
  split at hn
  ·rename_i A;exact A
  simp at hn
 simp only [dr,Prod.mk.injEq] at h;rw [<-h.1];exact .inl ⟨rfl,rfl⟩
theorem Aq:∀f acc i gs j,dW T P f acc i=.ok (gs,j)->(∀g∈acc,jP g)->∀g∈gs,jP g
 |0,acc,i,gs,j,h,_=>by simp [dW] at h
 |f+1,acc,i,gs,j,h,ha=>by
  unfold dW at h
  split at h
  ·simp at h
  rename_i g0 C hg;have h0:=Hf T P _ _ _ hg;have h1:∀g∈acc++[g0],jP g:=fun g hg=>by
   exact Lx
  split at h
  ·exact Aq f _ _ _ _ h h1
  exact Lz
def GR(r:Nat->eC Ex):Prop:=∀i x j,r i=.ok (x,j)->∀e∈aH x,∀g∈e7 e,jP g
theorem Ar(l:List ae)(part:Nat->eC Ex)(hp:GR part):∀f y i x j,joinL T P l part f y i=.ok (x,j)->(∀e∈aH y,∀g∈e7 e,jP g)->∀e∈aH x,∀g∈e7 e,jP g
 |0,y,i,x,j,h,_=>by simp [joinL] at h
 |f+1,y,i,x,j,h,ha=>by
  unfold joinL at h
  split at h
  ·split at h
   ·simp at h
   rename_i z C hz;refine Ar l part hp f _ C x j h (fun e he=> ?_);exact Lw
  simp only [dr,Prod.mk.injEq] at h;rw [<-h.1];exact ha
theorem pu(l:List ae)(part:Nat->eC Ex)(A:GR part):GR (eG T P l part):=by
 intro i x j h;unfold eG at h
 split at h
 ·simp at h
 rename_i y D C;exact Ar T P l part A _ _ _ x j h (A _ _ _ C)
theorem As(R:Bool)(O:Nat->eC Ex)(hp:GR O):GR (eQ T P R O):=by
 intro i x j h;unfold eQ at h
 split at h
 ·unfold kG at h
  split at h
  ·simp at h
  rename_i gs U hl;simp only [dr,Prod.mk.injEq] at h;rw [<-h.1];intro e J g Q;simp only [Eu,aH,aR] at J;subst J;exact Aq T P _ _ _ _ _ hl an g (by simpa [e7] using Q)
 exact Qt
theorem Au:∀n,GR (fb T P n)
 |0=>pu T P _ _ (pu T P _ _ (As T P false _ (fun i x j h=>by simp at h)))
 |n+1=>pu T P _ _ (pu T P _ _ (As T P true _ (Au n)))
theorem Hg(i:Nat)(r:Rl)(j:Nat)(C:kH T P i=.ok (r,j)):c9 r.name=true/\∃i0 D,fb T P 4 i0=.ok (r.body,D)/\D<=j:=by
 unfold kH at C
 split at C
 ·simp at C
 rename_i u O hn
 split at C
 ·simp at C
 rename_i x m J
 split at C
 ·simp only [dr,Prod.mk.injEq] at C;obtain ⟨rfl,rfl⟩:=C;refine ⟨?_,O,m,J,aj⟩;unfold b5 cE at hn;simp only
  cases I:c9 (T i)
  ·rw [I] at hn;simp at hn
  rfl
 simp at C
theorem uc:∀f acc i rs m,dg T P f acc i=.ok (rs,m)->∀r∈rs,r∈acc\/(c9 r.name=true/\∃i0 C,fb T P 4 i0=.ok (r.body,C)/\C<=m)
 |0,acc,i,rs,m,h=>by simp [dg] at h
 |f+1,acc,i,rs,m,h=>by
  unfold dg at h
  split at h
  ·exact Ly
  split at h
  ·simp at h
  split at h
  ·simp at h
  rename_i R j J;intro r I;have Q:=n6 T P f _ _ _ _ h
  rcases uc f _ _ _ _ h r I with h1|h1
  ·rcases aT.1 h1 with h1|h1
   ·exact .inl h1
   rw [aR] at h1;subst h1;obtain ⟨h2,i0,C,D,O⟩:=Hg T P _ _ _ J;exact .inr ⟨h2,i0,C,D,aj⟩
  exact .inr h1
theorem rh:∀f acc i ts m,db T P f acc i=.ok (ts,m)->∀t∈ts,t∈acc\/∀r∈t.rels,c9 r.name=true/\∃i0 D,fb T P 4 i0=.ok (r.body,D)/\D<=m
 |0,acc,i,ts,m,h=>by simp [db] at h
 |f+1,acc,i,ts,m,h=>by
  unfold db at h
  split at h
  ·exact Ly
  split at h
  ·simp at h
  split at h
  ·simp at h
  rename_i t0 j C;intro t O;obtain ⟨_,_,V,_⟩:=oI T P f _ _ _ _ h
  rcases rh f _ _ _ _ h t O with h1|h1
  ·rcases aT.1 h1 with h1|h1
   ·exact .inl h1
   rw [aR] at h1;subst h1;refine .inr (fun r Q=> ?_);rw [jN] at C
   split at C
   ·unfold l7 at C
    split at C
    ·simp at C
    split at C
    ·simp at C
    rename_i rs Y R;simp only [dr,Prod.mk.injEq] at C;obtain ⟨rfl,rfl⟩:=C
    rcases uc T P _ _ _ _ _ R r Q with I|⟨I,i0,D,J,U⟩
    ·simp at I
    exact ⟨I,i0,D,J,aj⟩
   simp at C
  exact .inr h1
end
theorem jR(h:ej (TT s) (PP s)=.ok (ts,m)):∀t∈ts,∀r∈t.rels,c9 r.name=true/\∃i0 A,fb (TT s) (PP s) 4 i0=.ok (r.body,A)/\A<=m:=fun t C=>by
 rcases rh (TT s) (PP s) 512 [] 0 ts m h t C with h|h
 ·simp at h
 exact h
theorem ue(h:ej (TT s) (PP s)=.ok (ts,m)):tY ts:=fun t C r A=>by
 obtain ⟨_,i0,D,h1,_⟩:=jR h t C r A;exact Au (TT s) (PP s) 4 _ _ _ h1
theorem oK:∀(x:Ex),(aH x).length<=(aA x).length
 |⟨n,some x,some y⟩=>by
  have h1:=oK x;have h2:=oK y;simp only [aH,aA,bo,List.length_cons,List.length_nil];omega
 |⟨n,none,r⟩=>by simp [aH,aA]
 |⟨n,some x,none⟩=>by simp [aH,aA]
theorem cP.mem{pl:List PV}{F:Nat}:∀(xs:List RV) (ps:List (ae×Rl)),cP pl F xs ps->∀x∈xs,∃p∈ps,x.kd=p.1/\x.nm=p.2.name/\x.pl=p.2.place/\Tr pl F x.ex p.2.body
 | [],[],_,x,C=>by simp at C
 |y::xs,p::ps,h,x,C=>by
  rcases bA.1 C with rfl|C
  ·exact ⟨p,an,h.1⟩
  obtain ⟨q,D,I⟩:=cP.mem xs ps h.2 x C;exact ⟨q,by simp [D],I⟩
 | [],_::_,h,_,_=>h.elim
 |_::_,[],h,_,_=>h.elim
def pw(ts:List Ty):Prop:=∀t∈ts,∀r∈t.rels,(aA r.body).length<=500/\(bZ r.body).length<=500
theorem sized(C:ej (TT s) (PP s)=.ok (ts,m))(D:Gd s m)(hs:s.size<=500):pw ts:=fun t J r I=>by
 have O:=D.le;have:=((ir (TT s) (PP s) ts m C).1 t J).1 r I;exact ⟨aL this.p aj,aL this.g aj⟩
section
variable {pl:List PV}{rl:List RV}{ts:List Ty}{F:Nat}
theorem jq(hF:cP pl F rl (bh ts))(V:pw ts)(x)(U:x∈rl):(aD pl F x.ex).length<=500/\((aD pl F x.ex).flatMap (jc pl)).length<=500/\∀n∈aD pl F x.ex,∃p,pl[n]? =some p/\p.gs.length<=500:=by
 obtain ⟨p,I,_,_,_,R⟩:=cP.mem rl _ hF x U;obtain ⟨t,O,_,J⟩:=dv.1 I;obtain ⟨h1,h2⟩:=V t O p.2 J;have ha:=dJ pl F _ _ R;have hl:=cf.len _ _ ha;have Z:=oK p.2.body;have C:(aD pl F x.ex).flatMap (jc pl)=bZ p.2.body:=by rw [dG];exact qC _ _ ha
 refine ⟨aj,by rw [C];exact h2,fun n hn=> ?_⟩;obtain ⟨e,Y,Q⟩:=cf.mem _ _ ha n hn;obtain ⟨q,D,_⟩:=id Q;refine ⟨q,D,?_⟩;have e1:jc pl n=q.gs:=by unfold jc;rw [D]
 have:=rb (jc pl) _ n hn;rw [e1,C] at this;omega
theorem LA(hF:cP pl F rl (bh ts))(O:pw ts):RF rl pl (aD pl F):=fun x C=>by
 obtain ⟨h1,_,D⟩:=jq hF O x C;obtain ⟨p,Q,_,_,_,J⟩:=cP.mem rl _ hF x C;exact ⟨gU pl F _ _ J aj,aj,fun n hn=>by obtain ⟨q,I,hl⟩:=D n hn;exact ⟨q,I,aj⟩⟩
theorem uf(hF:cP pl F rl (bh ts))(A:pw ts)(r):(ef rl pl (aD pl F) r).length<=500:=by
 unfold ef
 cases h:rl[r]? with
 |none=>simp
 |some x=>exact (jq hF A x (bx h)).2.1
theorem xZ(hF:cP pl F rl (bh ts))(C:pw ts):mR rl pl (ef rl pl (aD pl F)):=fun r D=>by
 refine ⟨?_,aL (uf hF C r) aj⟩;intro b kv rv pv kl l w J;have I:=aG D;obtain ⟨h1,h2,O⟩:=LA hF C rl[r] (bu D);have Q:(aD pl F rl[r].ex).flatMap (jc pl)=ef rl pl (aD pl F) r:=by unfold ef;rw [I]
 exact Ad b kv rv pv kl rl pl l r rl[r] _ _ w J I h1 (fun m R=>by obtain ⟨p,U,_⟩:=O m R;exact (be.1 U).1) Q (aL (uf hF C r) aj) h2
def OJ(rl:List RV)(kd:ae)(p:PV):Prop:=(p.kind=2->0<=aU kd p.nr rl 0)/\(p.kind=3->0<=aU kd p.nb rl 0)
theorem pz(kl dk ff)(C:jO kl rl pl dk ff=none)(x)(O:x∈rl)(n)(I:n∈ff x.ex)(p)(J:pl[n]? =some p):OJ rl x.kd p:=by
 unfold jO at C;rw [jI] at C;have h1:=C x O;rw [jI] at h1;have h2:=h1 n I;unfold pp at h2;rw [J] at h2;simp only at h2;unfold Db at h2
 split at h2
 ·simp at h2
 refine ⟨fun D=> ?_,fun D=> ?_⟩
 ·rw [if_pos D] at h2
  split at h2
  ·simp at h2
  omega
 rw [if_neg aj,if_pos D] at h2
 split at h2
 ·simp at h2
 omega
theorem Av(rl g):∀r∈fg rl g,r<rl.length:=by
 unfold fg
 rcases cU g.ty (b9 g) rl 0 with h|⟨j,h,_,h2⟩
 ·rw [h];simp
 rw [h];simp;omega
theorem LB(rl dk kd p)(I:OJ rl kd p):∀r∈gg rl dk kd p,r<rl.length:=by
 intro r h;unfold gg at h
 rcases aT.1 h with h|h
 ·obtain ⟨g,_,A⟩:=cb.1 h;exact Av rl g r A
 split at h
 ·rename_i D;rw [aR] at h;have h0:=I.1 D
  rcases cU kd p.nr rl 0 with C|⟨j,C,_,h2⟩
  ·omega
  rw [C] at h;omega
 split at h
 ·unfold fe at h;obtain ⟨g,_,A⟩:=cb.1 h;unfold gV at A
  split at A
  ·rw [aR] at A;rename_i hc;rw [bO,decide_eq_true_eq] at hc
   rcases cU g.ty p.nr rl 0 with C|⟨j,C,_,h2⟩
   ·omega
   rw [C] at A;omega
  simp at A
 simp at h
theorem x8(rl):∀(l:List Gr),(l.flatMap (fg rl)).length<=l.length
 | []=>an
 |g::l=>by
  have h1:=Lm rl g;have h2:=x8 rl l;exact xR
theorem LC(rl dk)(h:∀r,(dk r).length<=500)(kd p):(gg rl dk kd p).length<=p.gs.length+500:=by
 unfold gg;have h1:=x8 rl p.gs;rw [bo]
 split
 ·simp only [List.length_cons,List.length_nil];omega
 split
 ·have:=xT rl p.nr (dk (aU kd p.nb rl 0).toNat);have:=h (aU kd p.nb rl 0).toNat;omega
 simp only [List.length_nil];omega
theorem oL{α β:Type}(f:α->List β)(n):∀(l:List α),(∀a∈l,(f a).length<=n)->(l.flatMap f).length<=l.length*n
 | [],_=>an
 |a::l,h=>by
  have h1:=h a an;have h2:=oL f n l (fun a ha=>h a (by simp [ha]));exact J5
theorem mV(hF:cP pl F rl (bh ts))(V:pw ts)(kl)(U:jO kl rl pl (ef rl pl (aD pl F)) (aD pl F)=none)(x)(R:x∈rl)(lv)(J:∀n∈lv,n∈aD pl F x.ex)(Y:lv.length<=500):
  (∀m∈lv,∃p,pl[m]? =some p/\p.gs.length<=1000/\(p.kind=2->0<=aU x.kd p.nr rl 0)/\(p.kind=3->0<=aU x.kd p.nb rl 0))/\(hW rl pl (ef rl pl (aD pl F)) x.kd lv).length<=1000000/\(∀r∈hW rl pl (ef rl pl (aD pl F)) x.kd lv,r<rl.length)/\(ID rl pl lv).length<=1000000/\∀r∈ID rl pl lv,r<rl.length:=by
 obtain ⟨_,_,Q⟩:=jq hF V x R;refine ⟨fun m D=> ?_,?_,?_,?_,?_⟩
 ·obtain ⟨p,I,O⟩:=Q m (J m D);have:=pz kl _ _ U x R m (J m D) p I;exact ⟨p,I,aj,this.1,this.2⟩
 ·refine aL (oL _ 1000 lv (fun m D=> ?_)) aj;obtain ⟨p,I,O⟩:=Q m (J m D);unfold qA;rw [I];simp only;have:=LC rl _ (uf hF V) x.kd p;omega
 ·intro r C;unfold hW at C;obtain ⟨m,D,C⟩:=cb.1 C;obtain ⟨p,I,O⟩:=Q m (J m D);unfold qA at C;rw [I] at C;exact LB rl _ x.kd p (pz kl _ _ U x R m (J m D) p I) r C
 ·refine aL (oL _ 1000 lv (fun m D=> ?_)) aj;obtain ⟨p,I,O⟩:=Q m (J m D);unfold qA;rw [I];have:=x8 rl p.gs;simp only;unfold G9;omega
 ·intro r C;unfold ID at C;obtain ⟨m,D,C⟩:=cb.1 C;obtain ⟨p,I,O⟩:=Q m (J m D);unfold qA at C;rw [I] at C;unfold G9 at C;obtain ⟨g,_,O⟩:=cb.1 C;exact Av rl g r O
theorem OK(hF:cP pl F rl (bh ts))(D:pw ts)(kl)(I:jO kl rl pl (ef rl pl (aD pl F)) (aD pl F)=none):ku rl pl (ef rl pl (aD pl F)) (aD pl F):=fun x C=>by
 obtain ⟨h1,h2,Q⟩:=LA hF D x C;obtain ⟨J,R,O,_⟩:=mV hF D kl I x C _ (fun n hn=>hn) (jq hF D x C).1;exact ⟨⟨h1,h2,J⟩,aj,O⟩
end
def x9 (A:aF:=by
 simp only [cj,List.sum_cons];omega):aF:=A
def mW(pl:List PV):Nat->Nat->Nat
 |0,_=>0
 |f+1,n=>match pl[n]? with
  |none=>1
  |some p=>(p.ps.map (mW pl f)).sum+1
theorem nA{f g:Nat->Nat}:∀{l:List Nat},(∀a∈l,f a=g a)->(l.map f).sum=(l.map g).sum
 | [],_=>rfl
 |a::l,h=>by
  simp only [cj,List.sum_cons];rw [h a an,nA (fun b C=>h b (by simp [C]))]
theorem LD(pl):∀(f n:Nat)(x:Ex),Tr pl f n x->mW pl (f+1) n=mW pl f n
 |0,_,_,h=>h.elim
 |f+1,n,x,h=>by
  obtain ⟨p,A,_⟩:=id h;have C:=h.kids A;rw [mW,mW,A];simp only;rw [nA (f:=mW pl (f+1)) (g:=mW pl f) (fun m D=>by obtain ⟨y,I⟩:=C m D;exact LD pl f m y I)]
theorem ya(pl){x}(h:Tr pl f n x)(hF:f<=F):mW pl F n=mW pl f n:=by
 obtain ⟨d,rfl⟩:=Nat.exists_eq_add_of_le hF;clear hF
 induction d with
 |zero=>rfl
 |succ d ih=>rw [<-ih];exact LD pl _ _ _ (Tr.le pl (Nat.le_add_right f d) h)
theorem oM:∀(rs:List (ae×Nat×Ex)) (x:Ex),(aA (dl x rs)).length=(aA x).length+(rs.map fun r=>(aA r.2.2).length+1).sum
 | [],x=>by simp [dl]
 |(t,p,y)::rs,x=>by
  rw [dl,oM rs];simp only [fV,aA,bo,List.length_cons,List.length_nil,cj,List.sum_cons];omega
theorem ug{R}(z)(C:∀n x,R n x->z n<=(aA x).length):∀(ns:List Nat) (rs:List (ae×Nat×Ex)),cf R ns (rs.map fun r=>r.2.2)->(ns.map z).sum+rs.length<=(rs.map fun r=>(aA r.2.2).length+1).sum
 | [],[],_=>an
 |n::ns,r::rs,k=>by
  have h1:z n<=(aA r.2.2).length:=C _ _ k.1;have h2:=ug z C ns rs k.2;simp only [cj,List.sum_cons,List.length_cons];omega
 | [],_::_,k=>k.elim
 |_::_,[],k=>k.elim
theorem kS(pl):∀(f n:Nat)(x:Ex),Tr pl f n x->mW pl f n<=(aA x).length
 |0,_,_,h=>h.elim
 |f+1,n,x,⟨p,hp,h⟩=>by
  rw [mW,hp];simp only
  rcases h with ⟨h1,hn,h2⟩|⟨h1,h0,hn,h2⟩|⟨h1,h0,hn,h2⟩|⟨h1,h0,U,ns,V,rs,C,D,I,Q,J,O⟩|⟨h1,h0,Y,U,ns,V,rs,C,D,I,Q,J,O⟩
  ·rw [hn.1,h2];simp [aA]
  ·rw [hn.1,h2];simp [aA]
  ·rw [hn.1,h2];simp [aA]
  ·rw [O,C,oM];have k1:=kS pl f _ _ D;have R:=ug (mW pl f) (kS pl f) ns rs I;have k3:0<rs.length:=mg.2 J.2;exact x9
  rw [O,C,oM];have k1:=kS pl f _ _ D;have R:=ug (mW pl f) (kS pl f) ns rs I;have k3:0<rs.length:=mg.2 J;exact x9
theorem Tr.signs{x p}(h:Tr pl (f+1) n x)(U:pl[n]? =some p):p.sg.length<=p.ps.length:=by
 obtain ⟨Z,A,h⟩:=h;rw [U] at A;simp only [aK] at A;subst A
 rcases h with ⟨h1,hn,h2⟩|⟨h1,h0,hn,h2⟩|⟨h1,h0,hn,h2⟩|⟨h1,h0,V,ns,Y,rs,C,O,D,I,Q,R⟩|⟨h1,h0,J,V,ns,Y,rs,C,O,D,I,Q,R⟩
 ·rw [hn.2];simp
 ·rw [hn.2];simp
 ·rw [hn.2];simp
 ·have:=cf.len _ _ D;rw [I,C];simp at this ⊢;omega
 rw [J];simp
theorem Tr.kid_leaves{x p}(A:Tr pl (f+1) n x)(I:pl[n]? =some p):∀m∈p.ps,∀k∈aD pl f m,k∈aD pl (f+1) n:=by
 obtain ⟨J,C,A⟩:=A;rw [I] at C;simp only [aK] at C;subst C;intro m h k D;rw [aD,I];simp only
 rcases A with ⟨h1,hn,h2⟩|⟨h1,h0,hn,h2⟩|⟨h1,h0,hn,h2⟩|⟨h1,_⟩|⟨h1,_⟩
 ·rw [hn.1] at h;simp at h
 ·rw [hn.1] at h;simp at h
 ·rw [hn.1] at h;simp at h
 ·rw [if_pos (.inl h1)];exact cb.2 ⟨m,h,D⟩
 rw [if_pos (.inr h1)];exact cb.2 ⟨m,h,D⟩
def QF(pl:List PV)(F:Nat)(x:RV)(n:Nat):Prop:=∃f y,f<=F/\Tr pl f n y/\∀k∈aD pl F n,k∈aD pl F x.ex
section
variable {pl:List PV}{rl:List RV}{ts:List Ty}{F:Nat}
theorem ui(pl):∀(f n:Nat)(x:Ex),Tr pl f n x->(aD pl f n).length<=mW pl f n
 |0,_,_,h=>h.elim
 |f+1,n,x,h=>by
  obtain ⟨p,C,_⟩:=id h;have D:=h.kids C;rw [aD,mW,C];simp only
  split
  ·rw [List.length_flatMap];have:∀l:List Nat,(∀m∈l,∃y,Tr pl f m y)->(l.map fun a=>(aD pl f a).length).sum<=(l.map (mW pl f)).sum:=by
    intro l
    induction l with
    |nil=>simp
    |cons a l ih=>
     intro hl;obtain ⟨y,I⟩:=hl a an;have h1:=ui pl f a y I;have h2:=ih (fun m hm=>hl m E5);exact x9
   have:=this p.ps D;omega
  simp
def LF(pl:List PV)(F:Nat)(n:Nat):Prop:=mW pl F n<=500
theorem Fb(z:Nat->Nat):∀(l:List Nat),∀m∈l,z m<=(l.map z).sum
 |a::l,m,h=>by
  simp only [cj,List.sum_cons]
  rcases bA.1 h with rfl|h
  ·omega
  have:=Fb z l m h;omega
theorem OL(hF:cP pl F rl (bh ts))(I:pw ts)(kl)(ab:jO kl rl pl (ef rl pl (aD pl F)) (aD pl F)=none)(x)(R:x∈rl):Dj rl pl (ef rl pl (aD pl F)) (aD pl F) x (fun n=>QF pl F x n/\LF pl F n) (mW pl F):=by
 obtain ⟨p,af,_,_,_,Z⟩:=cP.mem rl _ hF x R;obtain ⟨t,ag,_,C⟩:=dv.1 af;obtain ⟨h1,h2⟩:=I t ag p.2 C;have ai:=kS pl F _ _ Z;have V:=mV hF I kl ab x R (aD pl F x.ex) (fun n hn=>hn) (jq hF I x R).1;have hl:=(jq hF I x R).1;refine ⟨⟨⟨F,_,cm _,Z,fun k U=>U⟩,by unfold LF;omega⟩,aj,fun n hn=> ?_,⟨⟨gU pl F _ _ Z aj,aj,V.1⟩,aj⟩⟩;obtain ⟨⟨f,y,ac,D,hs⟩,ho⟩:=hn;unfold LF at ho
 cases f with
 |zero=>exact D.elim
 |succ g=>
  obtain ⟨q,O,_⟩:=id D;have e1:mW pl F n=(q.ps.map (mW pl F)).sum+1:=by
   rw [ya pl D ac,mW,O];simp only;rw [nA (f:=mW pl g) (g:=mW pl F) (fun m Q=>by obtain ⟨z,I⟩:=D.kids O m Q;exact (ya pl I aj).symm)]
  refine ⟨q,O,D.signs O,aj,fun m Q=> ?_⟩;obtain ⟨z,J⟩:=D.kids O m Q;have ad:∀k∈aD pl F m,k∈aD pl F x.ex:=fun k U=>by
   refine hs k ?_;rw [jQ pl D ac];rw [jQ pl J aj] at U;exact D.kid_leaves O m Q k U
  have ah:mW pl F m<=(q.ps.map (mW pl F)).sum:=Fb _ _ m Q;have ae:(aD pl F m).length<=500:=by
   rw [jQ pl J aj];have:=ui pl g m z J;rw [<-ya pl J (show g<=F by omega)] at this;omega
  have Y:=mV hF I kl ab x R (aD pl F m) ad ae;refine ⟨⟨⟨g,z,aj,J,ad⟩,by unfold LF;omega⟩,⟨?_,aj,Y.1⟩,aj,?_,?_⟩
  ·have e:aD pl F m=aD pl g m:=jQ pl J aj;rw [e];exact gU pl g m z J (by rw [<-e];omega)
  ·intro r C;unfold fp at C
   rcases aT.1 C with C|C
   ·exact Y.2.2.1 r C
   split at C
   ·exact V.2.2.2.2 r C
   simp at C
  unfold fp;rw [bo];have:=Y.2.1;have:=V.2.2.2.1
  split
  ·omega
  simp only [List.length_nil];omega
end
abbrev iw:=@List.mem_iff_getElem?
def Aw (h:aF:=by
 simp [h]):aF:=h
def LG (D:aF:=by
 obtain ⟨k,C⟩:=iw.1 ih;have I:=(be.1 C).1;exact h2 k aj _ C _ hy):aF:=D
def LH (h:aF:=by
 rcases bA.1 h with rfl|h
 ·exact .inl an
 exact .inr Aw):aF:=h
def yc{α:Type}(nd:α->List α)(S:List α)(x:α):Prop:=∀P:α->Prop,(∀x∈S,P x)->(∀x y,P x->y∈nd x->P y)->P x
def yc.bz{α:Type}{nd:α->List α}{S x}(h:x∈S):yc nd S x:=fun _ a _=>a x h
def yc.step{α:Type}{nd:α->List α}{S x y}(h:yc nd S x)(k:y∈nd x):yc nd S y:=fun P a b=>b x y (h P a b) k
def yc.ind{α:Type}{nd:α->List α}{S}{motive:∀x,yc nd S x->Prop}(base:∀{x}(h:x∈S),motive x (.bz h))(step:∀{x y}(h:yc nd S x)(k:y∈nd x),motive x h->motive y (.step h k)){x}(h:yc nd S x):motive x h:=
 (h (fun x=>∃h,motive x h) (fun x h=>⟨_,base h⟩) (fun x y ⟨h,i⟩ k=>⟨_,step h k i⟩)).elim fun _ i=>i
theorem Dp(f:List Sp)(x:Sp):(f.any fun y=>gJ x y)=true↔x∈f:=by
 rw [ei]
 constructor
 ·rintro ⟨y,A,e⟩;rw [(o6 x y).1 e];exact A
 exact fun h=>⟨x,h,(o6 x x).2 rfl⟩
theorem oN(ts S):∀(k:Nat)(q f:List Sp),q.length+ez (aQ ts) f (gD ts)<k->(∀x∈S,x∈f\/x∈q)->(∀x∈f,yc (aQ ts) S x)->(∀x∈q,yc (aQ ts) S x)->(∀x∈f,∀y∈aQ ts x,y∈f\/y∈q)->
  ∀x,x∈dA (aQ ts) k q f↔yc (aQ ts) S x
 |0,q,f,hk,_,_,_,_=>aj
 |k+1,[],f,hk,h1,h2,h3,h4=>by
  intro x;rw [dA];refine ⟨h2 x,fun h=> ?_⟩
  induction h using yc.ind with
  |base h=>
   rcases h1 _ h with h|h
   ·exact h
   simp at h
  |step _ D ih=>
   rcases h4 _ ih _ D with h|h
   ·exact h
   simp at h
 |k+1,z::q,f,hk,h1,h2,h3,h4=>by
  intro x;rw [dA];simp only [List.length_cons] at hk
  by_cases I:(f.any fun y=>gJ z y)=true
  ·rw [if_pos I];have J:=(Dp f z).1 I;refine oN ts S k q f aj (fun x C=> ?_) h2 (fun x C=>h3 x (by simp [C])) (fun x C y D=> ?_) x
   ·rcases h1 x C with h|h
    ·exact .inl h
    rcases bA.1 h with rfl|h
    ·exact .inl J
    exact .inr h
   rcases h4 x C y D with h|h
   ·exact .inl h
   rcases bA.1 h with rfl|h
   ·exact .inl J
   exact .inr h
  rw [if_neg I];have Q:(f.any fun y=>gJ z y)=false:=by
   cases e:(f.any fun y=>gJ z y)
   ·rfl
   exact absurd e I
  have hs:=qf ts f z Q;have O:=h3 z an;refine oN ts S k (q++aQ ts z) (f++[z]) (by rw [bo];omega) (fun x C=> ?_) (fun x C=> ?_) (fun x C=> ?_) (fun x C y D=> ?_) x
  ·rcases h1 x C with h|h
   ·exact .inl Aw
   exact LH
  ·rcases aT.1 C with h|h
   ·exact h2 x h
   rw [aR.1 h];exact O
  ·rcases aT.1 C with h|h
   ·exact h3 x Aw
   exact .step O h
  rcases aT.1 C with h|h
  ·rcases h4 x h y D with h|h
   ·exact .inl Aw
   exact LH
  rw [aR.1 h] at D;exact .inr (by simp [D])
theorem e8(ts S x):x∈cF ts S↔yc (aQ ts) S x:=by
 unfold cF eE;exact oN ts S _ S [] aj (fun x C=> .inr C) an (fun x C=> .bz C) an x
theorem uj(ts S x):hN ts S x=true↔yc (aQ ts) S x:=by
 unfold hN;rw [Dp,e8]
theorem Hh(o x y):y∈iM o x↔y∈o\/y=x:=by
 unfold iM
 split
 ·rename_i h;rw [ei] at h;obtain ⟨k,A,e⟩:=h;have:k=x:=by simpa using e
  subst this
  constructor
  ·exact .inl
  rintro (h|rfl)
  ·exact h
  exact A
 simp
theorem qD:∀(l o:List Nat)(y:Nat),y∈kR o l↔y∈o\/y∈l
 | [],o,y=>by simp [kR]
 |x::l,o,y=>by
  have:=qD l (iM o x) y;unfold kR at*;rw [List.foldl_cons,this,Hh,bA]
  constructor
  ·rintro ((h|h)|h)
   ·exact .inl h
   ·exact .inr (.inl h)
   exact .inr (.inr h)
  rintro (h|h|h)
  ·exact .inl (.inl h)
  ·exact .inl (.inr h)
  exact .inr h
theorem Hi(o x):∃e,iM o x=o++e:=by
 unfold iM
 split
 ·exact ⟨[],an⟩
 exact ⟨[x],rfl⟩
theorem ws:∀(l o:List Nat),∃e,kR o l=o++e
 | [],o=>⟨[],by simp [kR]⟩
 |x::l,o=>by
  obtain ⟨e1,h1⟩:=Hi o x;obtain ⟨h,h2⟩:=ws l (iM o x);refine ⟨e1++h,?_⟩;unfold kR at*;rw [List.foldl_cons,h2,h1,eI]
theorem Ax(H S m)(Q:∀r,∀x∈H r,x<m):∀(f:Nat)(o:List Nat)(i:Nat),S.length+m<f+i->gO S m o->(∀x∈o,yc H S x)->(∀k<i,∀r,o[k]? =some r->∀y∈H r,y∈o)->
  ∀x,x∈tR H f o i↔yc H S x
 |0,o,i,hf,hg,h1,h2=>by
  intro x;rw [tR];have hl:=hg.le;obtain ⟨ex,rfl,_,_⟩:=hg;refine ⟨h1 x,fun J=> ?_⟩
  induction J using yc.ind with
  |base J=>simp [J]
  |step _ hy ih=>
   exact LG
 |f+1,o,i,hf,hg,h1,h2=>by
  intro x;rw [tR]
  cases hi:o[i]? with
  |none=>
   simp only;have Z:=List.getElem?_eq_none_iff.1 hi;obtain ⟨ex,rfl,_,_⟩:=hg;refine ⟨h1 x,fun J=> ?_⟩
   induction J using yc.ind with
   |base J=>simp [J]
   |step _ hy ih=>
    exact LG
  |some r=>
   simp only;have ac:=(be.1 hi).1;have V:=h1 r (bx hi);refine Ax H S m Q f _ (i+1) aj (mT _ _ hg (Q r)) (fun y hy=> ?_) (fun k ab Y O y hy=> ?_) x
   ·rcases (qD _ _ _).1 hy with J|J
    ·exact h1 y J
    exact .step V J
   obtain ⟨e,R⟩:=ws (H r) o;have U:k<o.length:=aj;rw [R,qc U] at O;rw [qD]
   rcases ii k i with J|J
   ·exact .inl (h2 k J Y O y hy)
   have:k=i:=aj;subst this;rw [hi] at O;simp only [aK] at O;subst O;exact .inr hy
theorem Ay(rl pl dk ff)(I:ku rl pl dk ff)(S x):x∈xY rl pl dk ff S↔yc (mS rl pl dk ff) S x:=by
 unfold xY;refine Ax _ S rl.length (fun r x C=> ?_) _ S 0 aj ⟨[],an,an,an⟩ (fun x C=> .bz C) (fun k J=>aj) x;unfold mS at C
 cases D:rl[r]? with
 |none=>rw [D] at C;simp at C
 |some y=>
  rw [D] at C;exact (I y (bx D)).2.2 x C
theorem OM(num:α->Int)(nd:α->List α)(H:Nat->List Nat)(S:List α)(N)(I:∀j,j∈N↔∃s∈S,num s=(j:Nat))(D:∀(s:α)(j:Nat),num s=j->∀j',j'∈H j↔∃s'∈nd s,num s'=(j':Nat))(h0:∀s,nd s≠ []->0<=num s)(j):yc H N j↔∃s,yc nd S s/\num s=j:=by
 constructor
 ·intro C
  induction C using yc.ind with
  |base C=>
   obtain ⟨s,hs,e⟩:=(I _).1 C;exact ⟨s,.bz hs,e⟩
  |step _ hy ih=>
   obtain ⟨s,hs,e⟩:=ih;obtain ⟨s',J,e'⟩:=(D s _ e _).1 hy;exact ⟨s',.step hs J,e'⟩
 ·rintro ⟨s,C,e⟩
  induction C using yc.ind generalizing j with
  |base C=>exact .bz ((I _).2 ⟨_,C,e⟩)
  |@step x y _ hy ih=>
   have O:=h0 x (fun e=>by rw [e] at hy;simp at hy);exact .step (ih (num x).toNat aj) ((D x (num x).toNat aj _).2 ⟨y,hy,e⟩)
abbrev lN:=@List.mem_filterMap
theorem cf.memr{R}:∀(ns:List Nat)(xs:List Ex),cf R ns xs->∀x∈xs,∃n∈ns,R n x
 | [],[],_,x,C=>by simp at C
 |n::ns,y::xs,k,x,C=>by
  rcases bA.1 C with rfl|C
  ·exact ⟨n,an,k.1⟩
  obtain ⟨m,D,I⟩:=cf.memr ns xs k.2 x C;exact ⟨m,by simp [D],I⟩
 | [],_::_,k,_,_=>k.elim
 |_::_,[],k,_,_=>k.elim
theorem ON{x y}(A:Tr pl 1 n x)(k:Tr pl 1 n y):x=y:=by
 obtain ⟨p,I,A⟩:=A;obtain ⟨q,D,k⟩:=k;rw [I] at D;simp only [aK] at D;subst D
 rcases A with ⟨h1,hn,rfl⟩|⟨h1,h0,hn,rfl⟩|⟨h1,h0,hn,rfl⟩|⟨_,_,_,_,_,_,_,C,_⟩|⟨_,_,_,_,_,_,_,_,C,_⟩
 ·rcases k with ⟨k1,kn,rfl⟩|⟨k1,k0,kn,rfl⟩|⟨k1,k0,kn,rfl⟩|⟨_,_,_,_,_,_,_,h,_⟩|⟨_,_,_,_,_,_,_,_,h,_⟩
  ·rfl
  ·omega
  ·omega
  ·exact h.elim
  exact h.elim
 ·rcases k with ⟨k1,kn,rfl⟩|⟨k1,k0,kn,rfl⟩|⟨k1,k0,kn,rfl⟩|⟨_,_,_,_,_,_,_,h,_⟩|⟨_,_,_,_,_,_,_,_,h,_⟩
  ·omega
  ·rfl
  ·omega
  ·exact h.elim
  exact h.elim
 ·rcases k with ⟨k1,kn,rfl⟩|⟨k1,k0,kn,rfl⟩|⟨k1,k0,kn,rfl⟩|⟨_,_,_,_,_,_,_,h,_⟩|⟨_,_,_,_,_,_,_,_,h,_⟩
  ·omega
  ·omega
  ·rfl
  ·exact h.elim
  exact h.elim
 ·exact C.elim
 exact C.elim
theorem e9:∀(x p:Ex),p∈aH x↔p∈aA x/\p.l=none
 |⟨n,some x,some y⟩,p=>by
  have h1:=e9 x p;have h2:=e9 y p;simp only [aH,aA,aT,aR,h1,h2]
  constructor
  ·rintro (h|h)
   ·exact ⟨.inl (.inl h.1),h.2⟩
   exact ⟨.inr h.1,h.2⟩
  rintro ⟨(h|rfl)|h,k⟩
  ·exact .inl ⟨h,k⟩
  ·simp at k
  exact .inr ⟨h,k⟩
 |⟨n,none,r⟩,p=>by
  simp only [aH,aA,aR]
  constructor
  ·rintro rfl;exact ⟨rfl,rfl⟩
  exact fun h=>h.1
 |⟨n,some x,none⟩,p=>by simp [aH,aA]
theorem eu(ts t r y s):s∈cY ts t r y↔∃e∈aH y,s∈dq ts t r e:=by
 unfold cY;rw [cb]
 constructor
 ·rintro ⟨p,h,hs⟩;refine ⟨p,(e9 y p).2 ⟨h,?_⟩,hs⟩;unfold dq at hs
  cases A:p.l with
  |none=>rfl
  |some z=>rw [A] at hs;simp at hs
 rintro ⟨p,h,hs⟩;exact ⟨p,((e9 y p).1 h).1,hs⟩
def rK(ts:List Ty)(t:Ty)(e:Ex):List Sp:=if e.nd.kind=0 then e.nd.gs.filterMap ll else if e.nd.kind=1 then [(t.name,e.nd.n1)] else (mC ts t e.nd.n1 e.nd.n2).map fun u=>(u.name,e.nd.n2)
structure Kn(pl:List PV)(rl:List RV)(ts:List Ty)(F:Nat):Prop where
 d:eN ts
 b:cO pl rl (bh ts)
 f:cP pl F rl (bh ts)
 g:tY ts
 n:∀t∈ts,∀r∈t.rels,c9 r.name=true
 w:∀t∈ts,∀r∈t.rels,WF r.body
 z:pw ts
 k:∀x∈rl,∀n∈aD pl F x.ex,∀p,pl[n]? =some p->OJ rl x.kd p
section
variable {pl:List PV}{rl:List RV}{ts:List Ty}{F:Nat}
theorem Kn.noName(h:Kn pl rl ts F)(k n)(I:c9 n=false):aU k n rl 0= -1:=by
 rcases cS h.d h.b k n with ⟨e,_⟩|⟨j,t,r,_,C,D,_⟩
 ·exact e
 have h1:=(cV C).1;obtain ⟨h2,A⟩:=cB D;have:=h.n t h1 r h2;rw [A,I] at this
 cases this
theorem Kn.hash(D:Kn pl rl ts F)(g)(I:jP g)(j):j∈fg rl g↔∃s,ll g=some s/\aU s.1 s.2 rl 0=j:=by
 unfold fg ll
 rcases I with ⟨h1,h2⟩|h1|⟨h1,h2⟩
 ·have e:b9 g=em:=by unfold b9;rw [if_neg aj,h2]
  rw [e,D.noName g.ty em Fa,if_neg aj,if_neg aj];simp
 ·have e:b9 g=sg 42:=by unfold b9;rw [if_pos h1]
  rw [e,D.noName g.ty (sg 42) wq,if_neg aj,if_neg aj];simp
 rw [qB h1,if_pos h1]
 constructor
 ·intro C
  split at C
  ·rw [aR] at C;exact ⟨_,rfl,by simp only;omega⟩
  simp at C
 rintro ⟨s,e,hs⟩;simp only [aK] at e;subst e;simp only at hs;rw [if_pos aj,aR];omega
theorem Kn.gof(C:Kn pl rl ts F){k}(D:(bh ts)[j]? =some (k,r)):ef rl pl (aD pl F) j=bZ r.body:=by
 obtain ⟨x,hx,_,_,_,htr⟩:=cP.get rl _ j _ C.f D;exact Dn
theorem Kn.allg(h:Kn pl rl ts F)(J:t∈ts)(I:r∈t.rels):∀g∈bZ r.body,jP g:=by
 rw [dG];intro g C;obtain ⟨e',A,D⟩:=cb.1 C;exact h.g t J r I e' A g D
theorem Kn.tie(C:Kn pl rl ts F)(y g)(I:jP g)(j):j∈gV rl y g↔∃u,ip ts y g=some u/\aU u.name y rl 0=j:=by
 rcases Ap C.d C.b y g I with ⟨e1,h⟩|⟨i,u,r,e1,h,J,O⟩
 ·rw [e1,h];simp
 have hn:aU u.name y rl 0=(i:Int):=by
  have A:=e1;unfold gV at A
  split at A
  ·rename_i hc;rw [bO,decide_eq_true_eq] at hc;simp only [ke,and_true] at A;have D:u.name=g.ty:=by
    unfold ip at h
    split at h
    ·split at h
     ·cases h
     rename_i v hv
     split at h
     ·simp only [aK] at h;subst h;exact (cV hv).2
     cases h
    cases h
   rw [D];omega
  cases A
 rw [e1,h,aR]
 constructor
 ·rintro rfl;exact ⟨u,rfl,hn⟩
 rintro ⟨v,e,hv⟩;simp only [aK] at e;subst e;omega
theorem Kn.leaf(A:Kn pl rl ts F)(t)(Y:t∈ts)(n e)(k:Tr pl 1 n e)(ab:∀g∈e7 e,jP g)(J:∀p,pl[n]? =some p->OJ rl t.name p)(j):j∈qA (gg rl (ef rl pl (aD pl F)) t.name) pl n↔∃s∈rK ts t e,aU s.1 s.2 rl 0=j:=by
 obtain ⟨p,V,k⟩:=k;have J:=J p V;unfold qA;rw [V];simp only;unfold gg rK
 rcases k with ⟨h1,U,rfl⟩|⟨h1,h0,U,rfl⟩|⟨h1,h0,U,rfl⟩|⟨_,_,_,_,_,_,_,D,_⟩|⟨_,_,_,_,_,_,_,_,D,_⟩
 ·simp only [h1,Nat.reduceEqDiff,aP,gl,if_true,cb,lN];have R:∀g∈p.gs,jP g:=by simpa [e7] using ab
  constructor
  ·rintro ⟨g,h,I⟩;obtain ⟨s,e1,C⟩:=(A.hash g (R g h) j).1 I;exact ⟨s,⟨g,h,e1⟩,C⟩
  rintro ⟨s,⟨g,h,e1⟩,C⟩;exact ⟨g,h,(A.hash g (R g h) j).2 ⟨s,e1,C⟩⟩
 ·have h2:=J.1 h1;simp only [h0,h1,Nat.reduceEqDiff,aP,if_true,oA,List.nil_append,aR]
  constructor
  ·intro I;exact ⟨_,rfl,by simp only;omega⟩
  rintro ⟨s,rfl,hs⟩;simp only at hs;omega
 ·have h2:=J.2 h1;simp only [h0,h1,Nat.reduceEqDiff,aP,if_true,oA,List.nil_append]
  rcases cS A.d A.b t.name p.nb with ⟨e1,_⟩|⟨i,ad,r,e1,D,Q,Z⟩
  ·omega
  rw [cR A.d Y] at D;simp only [aK] at D;subst D;have ac:=(cB Q).1;rw [e1,Int.toNat_natCast,A.gof Z];unfold fe mC;rw [Q];simp only [cb,aY,lN];have ha:=A.allg Y ac
  constructor
  ·rintro ⟨g,h,I⟩;obtain ⟨u,C,O⟩:=(A.tie p.nr g (ha g h) j).1 I;exact ⟨_,⟨u,⟨g,h,C⟩,rfl⟩,O⟩
  rintro ⟨s,⟨u,⟨g,h,C⟩,rfl⟩,O⟩;exact ⟨g,h,(A.tie p.nr g (ha g h) j).2 ⟨u,C,O⟩⟩
 ·exact D.elim
 exact D.elim
end
def LI (h:aF:=by
 simp only [dr,Prod.mk.injEq] at h;rw [<-h.1];exact fun _=>rfl):aF:=h
def vh(g:Gr):Prop:=g.reach=1->g.rel=em
section
variable (T:Nat->ae)(P:Nat->Nat)
theorem Hj(i:Nat)(g:Gr)(j:Nat)(h:cW T P i=.ok (g,j)):vh g:=by
 unfold cW at h
 split at h
 ·simp at h
 split at h
 ·exact LI
 split at h
 ·split at h
  ·simp at h
  simp only [dr,Prod.mk.injEq] at h;rw [<-h.1];exact fun e=>by simp at e
 exact LI
theorem Az:∀f acc i gs j,dW T P f acc i=.ok (gs,j)->(∀g∈acc,vh g)->∀g∈gs,vh g
 |0,acc,i,gs,j,h,_=>by simp [dW] at h
 |f+1,acc,i,gs,j,h,ha=>by
  unfold dW at h
  split at h
  ·simp at h
  rename_i g0 C hg;have h0:=Hj T P _ _ _ hg;have h1:∀g∈acc++[g0],vh g:=fun g hg=>by
   exact Lx
  split at h
  ·exact Az f _ _ _ _ h h1
  exact Lz
def GE(r:Nat->eC Ex):Prop:=∀i x j,r i=.ok (x,j)->∀e∈aH x,∀g∈e7 e,vh g
theorem AA(l:List ae)(part:Nat->eC Ex)(hp:GE part):∀f y i x j,joinL T P l part f y i=.ok (x,j)->(∀e∈aH y,∀g∈e7 e,vh g)->∀e∈aH x,∀g∈e7 e,vh g
 |0,y,i,x,j,h,_=>by simp [joinL] at h
 |f+1,y,i,x,j,h,ha=>by
  unfold joinL at h
  split at h
  ·split at h
   ·simp at h
   rename_i z C hz;refine AA l part hp f _ C x j h (fun e he=> ?_);exact Lw
  simp only [dr,Prod.mk.injEq] at h;rw [<-h.1];exact ha
theorem pA(l:List ae)(part:Nat->eC Ex)(A:GE part):GE (eG T P l part):=by
 intro i x j h;unfold eG at h
 split at h
 ·simp at h
 rename_i y D C;exact AA T P l part A _ _ _ x j h (A _ _ _ C)
theorem AB(R:Bool)(O:Nat->eC Ex)(hp:GE O):GE (eQ T P R O):=by
 intro i x j h;unfold eQ at h
 split at h
 ·unfold kG at h
  split at h
  ·simp at h
  rename_i gs U hl;simp only [dr,Prod.mk.injEq] at h;rw [<-h.1];intro e J g Q;simp only [Eu,aH,aR] at J;subst J;exact Az T P _ _ _ _ _ hl an g (by simpa [e7] using Q)
 exact Qt
theorem AC:∀n,GE (fb T P n)
 |0=>pA T P _ _ (pA T P _ _ (AB T P false _ (fun i x j h=>by simp at h)))
 |n+1=>pA T P _ _ (pA T P _ _ (AB T P true _ (AC n)))
end
theorem LJ(A:ej (TT s) (PP s)=.ok (ts,m)):∀t∈ts,∀r∈t.rels,∀g∈bZ r.body,vh g:=fun t I r D g h=>by
 obtain ⟨_,i0,J,h1,_⟩:=jR A t I r D;rw [dG] at h;obtain ⟨e,C,h⟩:=cb.1 h;exact AC (TT s) (PP s) 4 _ _ _ h1 e C g h
theorem Fc(A:tY ts):∀t∈ts,∀r∈t.rels,∀g∈bZ r.body,jP g:=fun t I r D g h=>by
 rw [dG] at h;obtain ⟨e,C,h⟩:=cb.1 h;exact A t I r D e C g h
section
variable {pl:List PV}{rl:List RV}{ts:List Ty}{F:Nat}
structure RI(pl:List PV)(F:Nat)(x:RV)(t:Ty)(r:Rl)(m:Nat)(y:Ex):Prop where
 tr:Tr pl F m y
 xt:Tr pl F x.ex r.body
 lv:∀n∈aD pl F m,n∈aD pl F x.ex
 kd:x.kd=t.name
theorem RI.leaf{x y}(s:RI pl F x t r m y){e}(A:e∈aH y):∃n∈aD pl F m,Tr pl 1 n e/\e∈aH r.body:=by
 obtain ⟨n,hn,D⟩:=cf.memr _ _ (dJ pl F _ _ s.tr) e A;obtain ⟨e',C,h⟩:=cf.mem _ _ (dJ pl F _ _ s.xt) n (s.lv n hn);rw [ON D h] at*;exact ⟨n,hn,h,C⟩
theorem Kn.hang(C:Kn pl rl ts F){x}(R:x∈rl)(D:t∈ts)(Q:r∈t.rels){y}(s:RI pl F x t r m y)(j):j∈hW rl pl (ef rl pl (aD pl F)) x.kd (aD pl F m)↔∃e∈aH y,∃s∈rK ts t e,aU s.1 s.2 rl 0=j:=by
 unfold hW;rw [cb];have key:∀n∈aD pl F m,∀e∈aH y,Tr pl 1 n e->(j∈qA (gg rl (ef rl pl (aD pl F)) x.kd) pl n↔∃s∈rK ts t e,aU s.1 s.2 rl 0=j):=fun n hn e h A=>by
  rw [s.kd];obtain ⟨_,_,_,I⟩:=s.leaf h;exact C.leaf t D n e A (C.g t D r Q e I) (fun p O=>by rw [<-s.kd];exact C.k x R n (s.lv n hn) p O) j
 constructor
 ·rintro ⟨n,hn,J⟩;obtain ⟨e,h,A⟩:=cf.mem _ _ (dJ pl F _ _ s.tr) n hn;exact ⟨e,h,(key n hn e h A).1 J⟩
 rintro ⟨e,h,hs⟩;obtain ⟨n,hn,A,_⟩:=s.leaf h;exact ⟨n,hn,(key n hn e h A).2 hs⟩
theorem pB{s}:s∈lm r↔∃e∈aH r.body,∃g∈e7 e,ll g=some s:=by
 unfold lm;rw [dG];simp only [lN,cb]
 constructor
 ·rintro ⟨g,⟨e,h,A⟩,hs⟩;exact ⟨e,h,g,A,hs⟩
 rintro ⟨e,h,g,A,hs⟩;exact ⟨g,⟨e,h,A⟩,hs⟩
theorem iy{x e}(h:e∈aH x):e.l=none:=((e9 x e).1 h).2
theorem fP{e}(h:e.l=none):dq ts t r e=if e.nd.kind=0 then lm r else rK ts t e:=by
 unfold dq rK;rw [h];simp only
 split
 ·rfl
 rfl
theorem kT{e}(h:e.l=none):e7 e=if e.nd.kind=0 then e.nd.gs else []:=by
 unfold e7;rw [h]
theorem Kn.grants(D:Kn pl rl ts F){x:RV}(Q:t∈ts)(O:r∈t.rels)(R:Tr pl F x.ex r.body)(j:Nat):j∈ID rl pl (aD pl F x.ex)↔∃s∈lm r,aU s.1 s.2 rl 0=j:=by
 unfold ID;rw [cb];have key:∀n e,Tr pl 1 n e->qA (G9 rl) pl n=(e7 e).flatMap (fg rl):=fun n e h=>by
  rw [<-nz h];obtain ⟨p,U,_⟩:=h;unfold qA jc G9;rw [U]
 constructor
 ·rintro ⟨n,hn,I⟩;obtain ⟨e,A,h⟩:=cf.mem _ _ (dJ pl F _ _ R) n hn;rw [key n e h,cb] at I;obtain ⟨g,C,I⟩:=I;obtain ⟨s,e1,J⟩:=(D.hash g (D.g t Q r O e A g C) j).1 I;exact ⟨s,pB.2 ⟨e,A,g,C,e1⟩,J⟩
 rintro ⟨s,hs,J⟩;obtain ⟨e,A,g,C,e1⟩:=pB.1 hs;obtain ⟨n,hn,h⟩:=cf.memr _ _ (dJ pl F _ _ R) e A;refine ⟨n,hn,?_⟩;rw [key n e h,cb];exact ⟨g,C,(D.hash g (D.g t Q r O e A g C) j).2 ⟨s,e1,J⟩⟩
theorem Fj{e}(h:e∈aH r.body)(A:e.nd.kind=0){s}(hs:s∈rK ts t e):s∈lm r:=by
 unfold rK at hs;rw [if_pos A,lN] at hs;obtain ⟨g,C,e1⟩:=hs;exact pB.2 ⟨e,h,g,by rw [kT (iy h),if_pos A];exact C,e1⟩
theorem Kn.need(I:Kn pl rl ts F){x}(Y:x∈rl)(O:t∈ts)(J:r∈t.rels){y}(s:RI pl F x t r m y)(j):j∈fp rl pl (ef rl pl (aD pl F)) x.kd (aD pl F m) (aD pl F x.ex)↔∃s∈cY ts t r y,aU s.1 s.2 rl 0=j:=by
 unfold fp;rw [aT,I.hang Y O J s j]
 constructor
 ·rintro (⟨e,h,A,hs,C⟩|R)
  ·refine ⟨A,(eu ts t r y A).2 ⟨e,h,?_⟩,C⟩;obtain ⟨_,_,_,Q⟩:=s.leaf h;rw [fP (iy h)]
   split
   ·rename_i D;exact Fj Q D hs
   exact hs
  split at R
  ·rename_i ha;obtain ⟨A,hs,C⟩:=(I.grants O J s.xt j).1 R;rw [ei] at ha;obtain ⟨n,hn,hl⟩:=ha;rw [decide_eq_true_eq] at hl;obtain ⟨e,h,U⟩:=cf.mem _ _ (dJ pl F _ _ s.tr) n hn;rw [nz U,kT (iy h)] at hl;refine ⟨A,(eu ts t r y A).2 ⟨e,h,?_⟩,C⟩;rw [fP (iy h)]
   split at hl
   ·rename_i D;rw [if_pos D];exact hs
   simp at hl
  simp at R
 rintro ⟨A,hs,C⟩;obtain ⟨e,h,hs⟩:=(eu ts t r y A).1 hs;rw [fP (iy h)] at hs;obtain ⟨n,hn,U,Q⟩:=s.leaf h
 split at hs
 ·rename_i D;right;have V:=I.w t O r J e ((e9 _ e).1 Q).1 (iy h) D;rw [if_pos (by
   rw [ei];refine ⟨n,hn,?_⟩;rw [decide_eq_true_eq,nz U,kT (iy h),if_pos D];exact mg.2 V)]
  exact (I.grants O J s.xt j).2 ⟨A,hs,C⟩
 exact .inl ⟨e,h,A,hs,C⟩
theorem Kn.spot(C:Kn pl rl ts F){s:Sp}(e:aU s.1 s.2 rl 0=j):∃t r x,t∈ts/\r∈t.rels/\t.name=s.1/\r.name=s.2/\bL ts s.1=some t/\bP t s.2=some r/\(bh ts)[j]? =some (s.1,r)/\rl[j]? =some x/\x.kd=t.name/\Tr pl F x.ex r.body:=by
 rcases cS C.d C.b s.1 s.2 with ⟨e1,_⟩|⟨i,t,r,e1,I,J,O⟩
 ·omega
 have:i=j:=aj;subst this;obtain ⟨x,Y,U,_,_,V⟩:=cP.get rl _ i _ C.f O;obtain ⟨Q,D⟩:=cV I;obtain ⟨b1,R⟩:=cB J;exact ⟨t,r,x,Q,b1,D,R,I,J,O,Y,by rw [U,D],V⟩
theorem Kn.inj(A:Kn pl rl ts F){s s':Sp}(e:aU s.1 s.2 rl 0=j)(e':aU s'.1 s'.2 rl 0=j):s=s':=by
 obtain ⟨t,r,x,_,_,_,h2,_,_,I,_⟩:=A.spot e;obtain ⟨O,J,Q,_,_,_,D,_,_,h,_⟩:=A.spot e';rw [I] at h;simp only [aK,Prod.mk.injEq] at h;obtain ⟨e1,C⟩:=h;subst C;exact Prod.ext e1 (by rw [<-h2,<-D])
theorem Kn.hangr(J:Kn pl rl ts F)(s)(j:Nat)(e:aU s.1 s.2 rl 0=j)(j':Nat):j'∈mS rl pl (ef rl pl (aD pl F)) (aD pl F) j↔∃s'∈aQ ts s,aU s'.1 s'.2 rl 0=j':=by
 obtain ⟨t,r,x,ab,Z,_,_,U,V,ac,R,I,Q⟩:=J.spot e;unfold mS aQ;rw [R,U];simp only;rw [V];simp only;have hs:RI pl F x t r x.ex r.body:=⟨Q,Q,fun n hn=>hn,I⟩;rw [J.hang (bx R) ab Z hs]
 constructor
 ·rintro ⟨e,h,A,hs,C⟩;refine ⟨A,(eu ts t r _ A).2 ⟨e,h,?_⟩,C⟩;rw [fP (iy h)]
  split
  ·rename_i I;exact Fj h I hs
  exact hs
 rintro ⟨A,hs,C⟩;obtain ⟨e,h,hs⟩:=(eu ts t r _ A).1 hs;rw [fP (iy h)] at hs
 split at hs
 ·obtain ⟨e',O,g,D,e1⟩:=pB.1 hs;refine ⟨e',O,A,?_,C⟩;rw [kT (iy O)] at D
  split at D
  ·rename_i Y;unfold rK;rw [if_pos Y,lN];exact ⟨g,D,e1⟩
  simp at D
 exact ⟨e,h,A,hs,C⟩
theorem Kn.bad(C:Kn pl rl ts F)(I:ku rl pl (ef rl pl (aD pl F)) (aD pl F)){x}(Y:rl[i]? =some x)(V:t∈ts)(U:r∈t.rels)(hi:aU t.name r.name rl 0=i){y}(s:RI pl F x t r m y):tT rl pl (ef rl pl (aD pl F)) (aD pl F) i x m=hN ts (cY ts t r y) (t.name,r.name):=by
 rw [Bool.eq_iff_iff,uj];unfold tT;rw [ei];have J:=OM (fun s:Sp=>aU s.1 s.2 rl 0) (aQ ts) (mS rl pl (ef rl pl (aD pl F)) (aD pl F)) (cY ts t r y) (fp rl pl (ef rl pl (aD pl F)) x.kd (aD pl F m) (aD pl F x.ex)) (fun j=>C.need (bx Y) V U s j) (fun s j e j'=>C.hangr s j e j') (fun s hs=>by
  rcases cS C.d C.b s.1 s.2 with ⟨e1,R⟩|⟨i,t,r,e1,ab,ac,ad⟩
  ·refine absurd ?_ hs;unfold aQ
   cases O:bL ts s.1 with
   |none=>rfl
   |some u=>simp only;rw [R u O]
  omega)
 constructor
 ·rintro ⟨k,Q,e⟩;have:k=i:=by simpa using e
  subst this;obtain ⟨Z,D,e⟩:=(J k).1 ((Ay _ _ _ _ I _ _).1 Q);rw [<-C.inj (s:=Z) (s':=(t.name,r.name)) e hi];exact D
 intro D;exact ⟨i,(Ay _ _ _ _ I _ _).2 ((J i).2 ⟨_,D,hi⟩),an⟩
end
def Du(rs:List Rl):List Nat:=rs.flatMap fun r=>kr r.body
def qE(ts:List Ty):List Nat:=ts.flatMap fun t=>Du t.rels
section
variable (T:Nat->ae)(P:Nat->Nat)
theorem Dv(i:Nat)(r:Rl)(j:Nat)(C:kH T P i=.ok (r,j)):iL P i j (kr r.body):=by
 unfold kH at C
 split at C
 ·simp at C
 rename_i u J hn;have I:=fx T _ _ _ _ hn
 split at C
 ·simp at C
 rename_i x O D
 split at C
 ·simp only [dr,Prod.mk.injEq] at C;obtain ⟨rfl,rfl⟩:=C;exact (wn T P 4 _ _ _ D).wide aj aj
 simp at C
theorem ri:∀(f:Nat)(acc:List Rl)(i:Nat)(rs:List Rl)(m:Nat),dg T P f acc i=.ok (rs,m)->∃new,rs=acc++new/\i<m/\iL P i m (Du new)
 |0,acc,i,rs,m,h=>by simp [dg] at h
 |f+1,acc,i,rs,m,h=>by
  unfold dg at h
  split at h
  ·exact xV
  split at h
  ·simp at h
  split at h
  ·simp at h
  rename_i r j C;have h1:=Dv T P i r j C;have h2:=(tO T P i r j C).2;obtain ⟨new,rfl,I,D⟩:=ri f _ _ _ _ h;refine ⟨r::new,an,aj,?_⟩;exact h1.app D aj aj
theorem pC:∀(f:Nat)(acc:List Ty)(i:Nat)(ts:List Ty)(m:Nat),db T P f acc i=.ok (ts,m)->∃new,ts=acc++new/\i<=m/\iL P i m (qE new)
 |0,acc,i,ts,m,h=>by simp [db] at h
 |f+1,acc,i,ts,m,h=>by
  unfold db at h
  split at h
  ·exact xV
  split at h
  ·simp at h
  split at h
  ·simp at h
  rename_i t j C;obtain ⟨new,rfl,O,D⟩:=pC f _ _ _ _ h;rw [jN] at C
  split at C
  ·unfold l7 at C
   split at C
   ·simp at C
   rename_i u U hn;have R:=fx T _ _ _ _ hn
   split at C
   ·simp at C
   rename_i rs V J;simp only [dr,Prod.mk.injEq] at C;obtain ⟨rfl,rfl⟩:=C;obtain ⟨rn,e,Q,I⟩:=ri T P _ _ _ _ _ J;rw [List.nil_append] at e;subst e;refine ⟨⟨T (i+1),P (i+1),rs⟩::new,an,aj,?_⟩;exact (I.wide (lo':=i) aj az).app D aj aj
  simp at C
end
theorem ye(O:ej (TT s) (PP s)=.ok (ts,m))(hg:Gd s m):(qE ts).Pairwise (· < ·):=by
 obtain ⟨new,e,_,ha⟩:=pC (TT s) (PP s) 512 [] 0 ts m O;exact Lv
def hY(B:Ex->Bool):Ex->List Nat
 |⟨n,some x,some y⟩=>hY B x++(if gA n.kind=246/\B y=true then [n.place] else [])++hY B y
 |⟨_,none,_⟩=>[]
 |⟨_,some _,none⟩=>[]
theorem un(B):∀(x:Ex),(hY B x).Sublist (kr x)
 |⟨n,some x,some y⟩=>by
  simp only [hY,kr];have h1:=un B x;have h2:=un B y;rw [eI];refine h1.append ?_
  split
  ·exact h2.cons_cons _
  exact h2.cons _
 |⟨_,none,_⟩=>by simp [hY]
 |⟨_,some _,none⟩=>by simp [hY]
theorem oO(ts t r):∀(x:Ex),(aA x).findSome? (kP ts t r)=(hY (fun y=>hN ts (cY ts t r y) (t.name,r.name)) x).head?
 |⟨n,some x,some y⟩=>by
  have h1:=oO ts t r x;have h2:=oO ts t r y;simp only [aA,hY,qh,h1,h2,List.findSome?_cons,List.findSome?_nil,List.head?_append]
  congr 2
  unfold kP;simp only
  by_cases ha:gA n.kind=246
  ·by_cases h:hN ts (cY ts t r y) (t.name,r.name)=true
   ·simp [ha,h]
   simp [ha,h]
  simp [ha]
 |⟨n,none,r'⟩=>by simp [aA,hY,kP]
 |⟨n,some x,none⟩=>by simp [aA,hY]
theorem Dw{l:List Nat}(D:l.Pairwise (· < ·)):dj (kq l.head?) (fun q=>q∈l):=by
 cases l with
 |nil=>exact .inl ⟨rfl,an⟩
 |cons a l=>
  refine .inr ⟨a,rfl,an,fun q C=> ?_⟩
  rcases bA.1 C with rfl|C
  ·exact cm _
  exact Nat.le_of_lt ((oH.1 D).1 q C)
theorem oP{α:Type}(f:α->List Nat):∀(l:List α),(l.findSome? fun a=>(f a).head?)=(l.flatMap f).head?
 | []=>rfl
 |a::l=>by
  rw [gq,cq,List.head?_append,<-oP f l]
  cases (f a).head? <;>rfl
def uo(ts:List Ty):List Nat:=ts.flatMap fun t=>t.rels.flatMap fun r=>hY (fun y=>hN ts (cY ts t r y) (t.name,r.name)) r.body
theorem uq{α:Type}{f g:α->List Nat}(C:∀a,(f a).Sublist (g a)):∀(l:List α),(l.flatMap f).Sublist (l.flatMap g)
 | []=>an
 |a::l=>by
  rw [cq,cq];exact (C a).append (uq C l)
theorem AK(h:(qE ts).Pairwise (· < ·)):dj (kq (eA (i6 ts) ts)) (fun q=>q∈uo ts):=by
 have e:eA (i6 ts) ts=(uo ts).head? :=by
  unfold eA uo;rw [<-oP]
  congr 1
  funext t
  rw [<-oP]
  congr 1
  funext r
  unfold i6;exact oO ts t r r.body
 rw [e];have hs:(uo ts).Sublist (qE ts):=by
  unfold uo qE Du;exact uq (fun t=>uq (fun r=>un _ r.body) t.rels) ts
 exact Dw (h.sublist hs)
def Qy (A:aF:=by
 rw [de,List.sum_append];omega):aF:=A
def Dx (h:aF:=by
 rw [hn.1,hn.2];simp only [gl,List.drop_nil,Ns];refine (j9 x bad B hB f q ys c S k2 aj h).congr (fun q=> ?_);simp [hY]):aF:=h
def LQ (A:aF:=by
 rw [h3];exact cf.app (show cf (qF pl (g+1) x) (n0::ns) (x0::rs.map fun r=>r.2.2) from ⟨k0,kn⟩) _ _ k2):aF:=A
theorem pD(t p):minus ⟨bW t,p,false⟩=eqs t (sg 45):=by
 unfold minus eqs;simp only;rw [gh,aO]
 rfl
theorem LR:¬gA (kindOf (sg 38))=246:=by decide
theorem OQ:¬gA (kindOf (sg 124))=246:=by decide
theorem Ho:gA (kindOf (sg 45))=246:=by decide
theorem lO{P:α->Prop}{x:α}{l:List α}:(∃a∈x::l,P a)↔P x\/∃a∈l,P a:=by
 constructor
 ·rintro ⟨a,ha,C⟩
  rcases bA.1 ha with rfl|ha
  ·exact .inl C
  exact .inr ⟨a,ha,C⟩
 rintro (C|⟨a,ha,C⟩)
 ·exact ⟨x,an,C⟩
 exact ⟨a,by simp [ha],C⟩
theorem qG(B q):∀(rs:List (ae×Nat×Ex)) (x:Ex),q∈hY B (dl x rs)↔q∈hY B x\/(∃r∈rs,gA (kindOf r.1)=246/\B r.2.2=true/\q=r.2.1)\/∃r∈rs,q∈hY B r.2.2
 | [],x=>by simp [dl]
 |(t,p,y)::rs,x=>by
  rw [dl,qG B q rs];simp only [fV,hY,aT,lO]
  by_cases h:gA (kindOf t)=246/\B y=true
  ·rw [if_pos h];simp only [aR,h,true_and]
   constructor
   ·rintro (((h|h)|h)|h|h)
    ·exact .inl h
    ·exact .inr (.inl (.inl h))
    ·exact .inr (.inr (.inl h))
    ·exact .inr (.inl (.inr h))
    exact .inr (.inr (.inr h))
   rintro (h|(h|h)|h|h)
   ·exact .inl (.inl (.inl h))
   ·exact .inl (.inl (.inr h))
   ·exact .inr (.inl h)
   ·exact .inl (.inr h)
   exact .inr (.inr h)
  rw [if_neg h];simp only [fG,fH]
  constructor
  ·rintro ((h|h)|h|h)
   ·exact .inl h
   ·exact .inr (.inr (.inl h))
   ·exact .inr (.inl (.inr h))
   exact .inr (.inr (.inr h))
  rintro (A|(A|A)|A|A)
  ·exact .inl (.inl A)
  ·exact absurd ⟨A.1,A.2.1⟩ h
  ·exact .inr (.inl A)
  ·exact .inl (.inr A)
  exact .inr (.inr A)
theorem wv{I:Nat->Ex->Prop}(bad:Nat->Bool)(B:Ex->Bool)(J:∀n y,I n y->bad n=B y):∀(rs:List (ae×Nat×Ex)) (ns:List Nat) (c:Int) (S:Nat->Prop),cf I ns (rs.map fun r=>r.2.2)->(∀r∈rs,r.1=sg 38\/r.1=sg 45)->dj c S->
  dj (Ns bad ns (rs.map fun r=>⟨bW r.1,r.2.1,false⟩) c) (fun q=>S q\/∃r∈rs,gA (kindOf r.1)=246/\B r.2.2=true/\q=r.2.1)
 | [],[],c,S,_,_,h=>h.congr (fun q=>an)
 |r::rs,n::ns,c,S,k,hs,h=>by
  have Q:bad n=B r.2.2:=J n _ k.1;have D:=wv bad B J rs ns;simp only [cj,Ns,pD,Q]
  rcases hs r an with e|e
  ·have e1:eqs r.1 (sg 45)=false:=by rw [e];decide
   rw [e1];simp only [dR,bz,aP];refine (D c S k.2 (fun r C=>hs r (by simp [C])) h).congr (fun q=> ?_);simp only [lO,e,LR,false_and,false_or]
  have e1:eqs r.1 (sg 45)=true:=by rw [e];decide
  rw [e1];simp only [Bool.true_and]
  cases O:B r.2.2
  ·simp only [bz,aP];refine (D c S k.2 (fun r C=>hs r (by simp [C])) h).congr (fun q=> ?_);simp only [lO,O,bz,false_and,and_false,false_or]
  simp only [if_true];refine (D _ _ k.2 (fun r C=>hs r (by simp [C])) (h.step r.2.1)).congr (fun q=> ?_);simp only [lO,O,e,Ho,true_and,or_assoc]
 | [],_::_,_,_,k,_,_=>k.elim
 |_::_,[],_,_,k,_,_=>k.elim
section
variable {pl:List PV}{rl:List RV}{ts:List Ty}{F:Nat}
theorem LS{y q}(I:Tr pl (f+1) n y)(C:pl[n]? =some q):mW pl (f+1) n=(q.ps.map (mW pl (f+1))).sum+1:=by
 rw [mW,C];simp only;rw [nA (f:=mW pl f) (g:=mW pl (f+1)) (fun m D=>by obtain ⟨z,J⟩:=I.kids C m D;exact (ya pl J aj).symm)]
def qF(pl:List PV)(F:Nat)(x:RV)(n:Nat)(y:Ex):Prop:=Tr pl F n y/\∀k∈aD pl F n,k∈aD pl F x.ex
theorem qF.kid{x y p}(C:qF pl (g+1) x n y)(O:pl[n]? =some p)(J:m∈p.ps){z}(I:Tr pl g m z):qF pl (g+1) x m z:=by
 refine ⟨Tr.up pl _ _ _ I,fun k D=>C.2 k ?_⟩;rw [jQ pl I aj] at D;exact C.1.kid_leaves O m J k D
theorem ut{R S}:∀(ns:List Nat)(xs:List Ex),(∀n∈ns,∀x,R n x->S n x)->cf R ns xs->cf S ns xs
 | [],[],_,_=>trivial
 |n::ns,x::xs,h,k=>⟨h n an x k.1,ut ns xs (fun n hn=>h n (by simp [hn])) k.2⟩
 | [],_::_,_,k=>k.elim
 |_::_,[],_,k=>k.elim
theorem j9{g}(x bad B)(hB:∀n y,qF pl (g+1) x n y->bad n=B y):∀(f:Nat)(q:List Nat)(ys:List Ex)(c:Int)(S:Nat->Prop),cf (qF pl (g+1) x) q ys->(q.map (mW pl (g+1))).sum<f->dj c S->
  dj (nT bad pl f q c) (fun p=>S p\/∃y∈ys,p∈hY B y)
 |0,_,_,_,_,_,h,_=>aj
 |f+1,[],[],c,S,_,_,h=>h.congr (fun q=>an)
 |f+1,n::q,y::ys,c,S,k,hs,h=>by
  obtain ⟨k1,k2⟩:=k;obtain ⟨p,I,hc⟩:=id k1.1;have C:=LS k1.1 I;simp only [cj,List.sum_cons] at hs;rw [nT,I];simp only
  rcases hc with ⟨h1,hn,rfl⟩|⟨h1,h0,hn,rfl⟩|⟨h1,h0,hn,rfl⟩|⟨h1,h0,n0,ns,x0,rs,h3,J,O,Q,V,rfl⟩|⟨h1,h0,Z,n0,ns,x0,rs,h3,J,O,Q,V,rfl⟩
  ·exact Dx
  ·exact Dx
  ·exact Dx
  ·have kn:cf (qF pl (g+1) x) ns (rs.map fun r=>r.2.2):=ut ns _ (fun m R z C=>k1.kid I (by rw [h3];simp [R]) C) O;have k0:qF pl (g+1) x n0 x0:=k1.kid I (by rw [h3];simp) J;have ab:=wv bad B hB rs ns c S kn V.1 h;have U:cf (qF pl (g+1) x) (q++p.ps) (ys++(x0::rs.map fun r=>r.2.2)):=by
    exact LQ
   have hl:=j9 x bad B hB f _ _ _ _ U Qy ab;rw [Q];rw [h3] at hl ⊢;simp only [pS,mm];refine hl.congr (fun p=> ?_);simp only [lO,qG,aT,or_and_right,exists_or,bA,exists_eq_left,aY]
   constructor
   ·rintro ((h|h)|h|h|⟨z,⟨r,D,rfl⟩,C⟩)
    ·exact .inl h
    ·exact .inr (.inl (.inr (.inl h)))
    ·exact .inr (.inr h)
    ·exact .inr (.inl (.inl h))
    exact .inr (.inl (.inr (.inr ⟨r,D,C⟩)))
   rintro (h|(h|h|⟨r,D,C⟩)|h)
   ·exact .inl (.inl h)
   ·exact .inr (.inr (.inl h))
   ·exact .inl (.inr h)
   ·exact .inr (.inr (.inr ⟨_,⟨r,D,rfl⟩,C⟩))
   exact .inr (.inl h)
  have kn:cf (qF pl (g+1) x) ns (rs.map fun r=>r.2.2):=ut ns _ (fun m R z C=>k1.kid I (by rw [h3];simp [R]) C) O;have k0:qF pl (g+1) x n0 x0:=k1.kid I (by rw [h3];simp) J;have U:cf (qF pl (g+1) x) (q++p.ps) (ys++(x0::rs.map fun r=>r.2.2)):=by
   exact LQ
  have hl:=j9 x bad B hB f _ _ _ _ U Qy h;rw [Z];have e:∀l:List Nat,Ns bad l (List.drop 1 []) c=c:=fun l=>by cases l<;>rfl
  rw [e];refine hl.congr (fun p=> ?_);have ac:¬∃r∈rs,gA (kindOf r.1)=246/\B r.2.2=true/\p=r.2.1:=by
   rintro ⟨r,D,Y,_⟩;rw [Q r D] at Y;exact OQ Y
  simp only [lO,qG,aT,or_and_right,exists_or,bA,exists_eq_left,aY,ac,false_or]
  constructor
  ·rintro (h|h|h|⟨z,⟨r,D,rfl⟩,C⟩)
   ·exact .inl h
   ·exact .inr (.inr h)
   ·exact .inr (.inl (.inl h))
   exact .inr (.inl (.inr ⟨r,D,C⟩))
  rintro (h|(h|⟨r,D,C⟩)|h)
  ·exact .inl h
  ·exact .inr (.inr (.inl h))
  ·exact .inr (.inr (.inr ⟨_,⟨r,D,rfl⟩,C⟩))
  exact .inr (.inl h)
 |f+1,[],_::_,_,_,k,_,_=>k.elim
 |f+1,_::_,[],_,_,k,_,_=>k.elim
end
theorem vi(A:eN ts):(bh ts).Pairwise fun p q=>¬(p.1=q.1/\p.2.name=q.2.name):=by
 unfold bh;rw [List.pairwise_flatMap];refine ⟨fun t C=> ?_,?_⟩
 ·rw [List.pairwise_map];exact (A.rl t C).imp (fun {a b} h e=>h e.2)
 refine A.ty.imp (fun {a b} h=> ?_);intro x D y I e;obtain ⟨r,_,rfl⟩:=aY.1 D;obtain ⟨q,_,rfl⟩:=aY.1 I;exact h e.1
section
variable {pl:List PV}{rl:List RV}{ts:List Ty}{F:Nat}
theorem Kn.num(h:Kn pl rl ts F){p:ae×Rl}(hi:(bh ts)[i]? =some p):aU p.1 p.2.name rl 0=i:=by
 obtain ⟨t,J,e1,Y⟩:=dv.1 (bx hi)
 rcases cS h.d h.b p.1 p.2.name with ⟨_,V⟩|⟨j,ab,r,e,Z,R,U⟩
 ·have:=V t (by rw [<-e1];exact cR h.d J);rw [oJ (h.d.rl t J) Y] at this
  cases this
 have hn:=(cB R).2;have C:=vi h.d;rw [List.pairwise_iff_getElem] at C;obtain ⟨O,D⟩:=be.1 hi;obtain ⟨Q,I⟩:=be.1 U
 rcases Nat.lt_trichotomy i j with A|A|A
 ·exact absurd (by rw [D,I];exact ⟨rfl,hn.symm⟩) (C i j O Q A)
 ·rw [e,A]
 exact absurd (by rw [D,I];exact ⟨rfl,hn⟩) (C j i Q O A)
def LU(ts:List Ty)(p:ae×Rl)(q:Nat):Prop:=∃t∈ts,t.name=p.1/\q∈hY (fun y=>hN ts (cY ts t p.2 y) (t.name,p.2.name)) p.2.body
theorem Kn.best(D:Kn pl rl ts F)(ac:ku rl pl (ef rl pl (aD pl F)) (aD pl F)){x}(Y:rl[i]? =some x){p:ae×Rl}(hi:(bh ts)[i]? =some p)(c S)(ad:dj c S):dj (nT (tT rl pl (ef rl pl (aD pl F)) (aD pl F) i x) pl (mW pl F x.ex+1) [x.ex] c) (fun q=>S q\/LU ts p q):=by
 obtain ⟨t,O,e1,af⟩:=dv.1 (bx hi);obtain ⟨ai,R,J,_,_,Q⟩:=cP.get rl _ i p D.f hi;rw [Y] at R;simp only [aK] at R;subst R;have V:=D.num hi;rw [<-e1] at V
 cases F with
 |zero=>exact Q.elim
 |succ g=>
  have ab:∀n y,qF pl (g+1) x n y->tT rl pl (ef rl pl (aD pl (g+1))) (aD pl (g+1)) i x n=hN ts (cY ts t p.2 y) (t.name,p.2.name):=fun n y hs=>
   D.bad ac Y O af V ⟨hs.1,Q,hs.2,by rw [J,e1]⟩
  refine (j9 x _ (fun y=>hN ts (cY ts t p.2 y) (t.name,p.2.name)) ab _ [x.ex] [p.2.body] c S ⟨⟨Q,fun k J=>J⟩,trivial⟩ an ad).congr (fun q=> ?_);simp only [aR,exists_eq_left];unfold LU
  constructor
  ·rintro (C|C)
   ·exact .inl C
   exact .inr ⟨t,O,e1,C⟩
  rintro (C|⟨ah,ag,Z,C⟩)
  ·exact .inl C
  have U:=cR D.d O;have I:=cR D.d ag;rw [e1] at U;rw [Z,U] at I;simp only [aK] at I;subst I;exact .inr C
theorem Kn.loops(C:Kn pl rl ts F)(D:ku rl pl (ef rl pl (aD pl F)) (aD pl F)):∀(xs:List RV) (ps:List (ae×Rl)) (i:Nat) (c:Int) (S:Nat->Prop),cP pl F xs ps->(∀k,xs[k]? =rl[i+k]?)->(∀k,ps[k]? =(bh ts)[i+k]?)->dj c S->
  dj (loopsR rl pl (ef rl pl (aD pl F)) (aD pl F) (fun _=>mW pl F) xs i c) (fun q=>S q\/∃p∈ps,LU ts p q)
 | [],[],i,c,S,_,_,_,hc=>by
  rw [loopsR];exact hc.congr (fun q=>an)
 |x::xs,p::ps,i,c,S,hf,hx,hp,hc=>by
  rw [loopsR];have h1:=C.best D (i:=i) (x:=x) (by have:=hx 0;simpa using this.symm) (p:=p) (by have:=hp 0;simpa using this.symm) c S hc;refine (Kn.loops C D xs ps (i+1) _ _ hf.2 (fun k=> ?_) (fun k=> ?_) h1).congr (fun q=> ?_)
  ·have:=hx (k+1);simp only [List.getElem?_cons_succ] at this;rw [this];congr 1;omega
  ·have:=hp (k+1);simp only [List.getElem?_cons_succ] at this;rw [this];congr 1;omega
  rw [lO,or_assoc]
 | [],_::_,_,_,_,k,_,_,_=>k.elim
 |_::_,[],_,_,_,k,_,_,_=>k.elim
theorem Hr:q∈uo ts↔∃t∈ts,∃r∈t.rels,q∈hY (fun y=>hN ts (cY ts t r y) (t.name,r.name)) r.body:=by
 unfold uo;simp only [cb]
theorem Kn.loopsR(I:Kn pl rl ts F)(R:ku rl pl (ef rl pl (aD pl F)) (aD pl F))(hs:(qE ts).Pairwise (· < ·)):loopsR rl pl (ef rl pl (aD pl F)) (aD pl F) (fun _=>mW pl F) rl 0 (-1)=kq (eA (i6 ts) ts):=by
 have h1:=I.loops R rl (bh ts) 0 (-1) (fun _=>False) I.f (fun k=>an) (fun k=>an) (.inl ⟨rfl,fun q C=>C⟩);refine h1.unique ((AK hs).congr (fun q=> ?_));rw [Hr,false_or]
 constructor
 ·rintro ⟨t,D,r,O,C⟩;exact ⟨(t.name,r),dv.2 ⟨t,D,rfl,O⟩,t,D,rfl,C⟩
 rintro ⟨p,U,t,D,e,C⟩;obtain ⟨Y,V,e',O⟩:=dv.1 U;have Q:=cR I.d D;have J:=cR I.d V;rw [e] at Q;rw [e',Q] at J;simp only [aK] at J;subst J;exact ⟨t,D,p.2,O,C⟩
end
theorem OR(hs:s.size<=500)(kl rl pl ts m)(h:ej (TT s) (PP s)=.ok (ts,m))(C:Gd s m)(D:tL pl kl rl ts):Lp kl rl pl ts:=by
 obtain ⟨F,hF⟩:=cO.fuel rl _ D.2;have A:=sized h C hs;have V:=ue h;obtain ⟨rfl,R⟩:=id D;refine ⟨ef rl pl (aD pl F),aD pl F,fun x n=>QF pl F x n/\LF pl F n,fun _=>mW pl F,xZ hF A,LA hF A,Dd D (vg h C),fun ad=> ?_⟩;have U:=(mU ts [] ad).2;have hn:=rg U R hF V;refine ⟨hn,fun ab=> ?_⟩;rw [ab] at hn;have Q:=OK hF A _ hn;refine ⟨Q,fun x O=>OL hF A _ hn x O,?_⟩;have Y:Kn pl rl ts F:=⟨U,R,hF,V,fun t J r I=>(jR h t J r I).1,fun t J r I=>(((ir (TT s) (PP s) ts m h).1 t J).1 r I).wf,A,fun x O n Z p ac=>pz _ _ _ hn x O n Z p ac⟩;exact Y.loopsR Q (ye h C)
theorem mY(s w)(hs:s.size<=500):Calls prog 80 #[.string s] w (Lq s w):=Hb s w hs (fun kl rl pl ts m h A C=>OR hs kl rl pl ts m h A C)
