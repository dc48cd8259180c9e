import Derived.Test.YtlbpnlngckgcbaaGreatDoorM09
set_option linter.all false
set_option maxHeartbeats 4000000
set_option maxRecDepth 100000
namespace Go.Proofs.YtlbpnlngckgcbaaGreatDoor
open Go.RowKit Go.PlainAid Go.Proofs.Tryz
variable {aF cD:Prop} {pl:List PV} {tn:ae} {r:Rl}
abbrev mQ(a0:ae)(a1:Int):Obj:=.cells #[.string a0,.int .i64 a1] 170
abbrev jM(a0:ae)(a1:ae)(a2:Int)(a3:Int):Obj:=.cells #[.string a0,.string a1,.int .i64 a2,.int .i64 a3] 172
def G6(pl:List PV)(tn:ae)(x:RV)(r:Rl):Prop:=x.kd=tn/\x.nm=r.name/\x.pl=r.place/\∃f,Tr pl f x.ex r.body
def jk(pl:List PV)(tn:ae):List RV->List Rl->Prop
 | [],[]=>True
 |x::xs,r::rs=>G6 pl tn x r/\jk pl tn xs rs
 |_,_=>False
theorem G6.more{x}(h:G6 pl tn x r)(t):G6 (pl++t) tn x r:=⟨h.1,h.2.1,h.2.2.1,by obtain ⟨f,A⟩:=h.2.2.2;exact ⟨f,Tr.more pl t f _ _ A⟩⟩
theorem jk.more{pl tn}(t):∀(xs:List RV)(rs:List Rl),jk pl tn xs rs->jk (pl++t) tn xs rs
 | [],[],_=>trivial
 |x::xs,r::rs,h=>⟨h.1.more t,jk.more t xs rs h.2⟩
 | [],_::_,h=>h.elim
 |_::_,[],h=>h.elim
theorem jk.snoc{pl tn y q}(k:G6 pl tn y q):∀(xs:List RV)(rs:List Rl),jk pl tn xs rs->jk pl tn (xs++[y]) (rs++[q])
 | [],[],_=>⟨k,trivial⟩
 |x::xs,r::rs,h=>⟨h.1,jk.snoc k xs rs h.2⟩
 | [],_::_,h=>h.elim
 |_::_,[],h=>h.elim
def l7(T:Nat->ae)(P:Nat->Nat)(i:Nat):eC Ty:=match b5 T (sg 123) i with
 | .error e=> .error e
 | .ok (_,j)=>match dg T P 512 [] j with
  | .error e=> .error e
  | .ok (rs,m)=> .ok (⟨T i,P i,rs⟩,m)
theorem jN(T P i):lX T P i=if eqs (T i) jf then l7 T P (i+1) else .error (2,i):=rfl
def K7(n:ae)(p:Nat)(r:eC (List Rl)):eC Ty:=match r with
 | .error e=> .error e
 | .ok (rs,m)=> .ok (⟨n,p,rs⟩,m)
theorem we(s x rm i a i1 e1 a1 i2 e2 a2)(h1:(i1,e1,a1)=SV s rm i a)(h2:(i2,e2,a2)=EN s x i1 e1 a1):
  (e2=0/\a2=a/\i2=i+2/\c9 (TT s i)=true/\rm=true/\b5 (TT s) x i=.ok ((),i2))\/(e2≠0/\((rm=true->∃D,a2=PP s D/\b5 (TT s) x i=.error (e2,D))/\(c9 (TT s i)=false->∃D,a2=PP s D/\b5 (TT s) x i=.error (e2,D))/\(c9 (TT s i)=true->rm=false->a2=PP s i/\e2=3))):=by
 unfold SV at h1;unfold b5 cE
 cases hn:c9 (TT s i)
 ·simp only [hn,bz,aP,Prod.mk.injEq] at h1;obtain ⟨rfl,rfl,rfl⟩:=h1;simp only [EN,Nat.reduceEqDiff,aP,Prod.mk.injEq] at h2;obtain ⟨rfl,rfl,rfl⟩:=h2;exact .inr ⟨aj,fun _=>⟨_,rfl,an⟩,fun _=>⟨_,rfl,an⟩,(fun C=>by cases C)⟩
 ·simp only [hn,if_true] at h1
  by_cases hl:(TT s i).size<=8
  ·cases O:rm
   ·simp only [hl,O,bz,and_false,aP,Prod.mk.injEq] at h1;obtain ⟨rfl,rfl,rfl⟩:=h1;simp only [EN,Nat.reduceEqDiff,aP,Prod.mk.injEq] at h2;obtain ⟨rfl,rfl,rfl⟩:=h2;exact .inr ⟨aj,(fun C=>by cases C),(fun C=>by cases C),fun _ _=>⟨rfl,rfl⟩⟩
   simp only [hl,O,and_self,if_true,Prod.mk.injEq] at h1;obtain ⟨rfl,rfl,rfl⟩:=h1;have J:¬(8<(TT s i).size):=aj;simp only [EN,if_true] at h2
   cases I:eqs (TT s (i+1)) x
   ·simp only [I,bz,aP,Prod.mk.injEq] at h2;obtain ⟨rfl,rfl,rfl⟩:=h2;exact .inr ⟨aj,fun _=>⟨_,rfl,by simp [J,I]⟩,(fun C=>by cases C),(fun _ C=>by cases C)⟩
   simp only [I,if_true,Prod.mk.injEq] at h2;obtain ⟨rfl,rfl,rfl⟩:=h2;exact .inl ⟨rfl,rfl,rfl,rfl,rfl,by simp [J,I]⟩
  have J:8<(TT s i).size:=aj;simp only [hl,false_and,aP,Prod.mk.injEq] at h1;obtain ⟨rfl,rfl,rfl⟩:=h1;simp only [EN,Nat.reduceEqDiff,aP,Prod.mk.injEq] at h2;obtain ⟨rfl,rfl,rfl⟩:=h2;exact .inr ⟨aj,fun _=>⟨_,rfl,by simp [J]⟩,(fun C=>by cases C),fun _ _=>⟨rfl,rfl⟩⟩
theorem C4(s i a i1 e1 a1 i2 e2 a2)(h1:(i1,e1,a1)=SV s true i a)(h2:(i2,e2,a2)=EN s (sg 123) i1 e1 a1):
  (e2=0/\a2=a/\i2=i+2/\K7 (TT s i) (PP s i) (dg (TT s) (PP s) 512 [] i2)=l7 (TT s) (PP s) i)\/(e2≠0/\∃h,a2=PP s h/\l7 (TT s) (PP s) i=.error (e2,h)):=by
 unfold l7
 rcases we s (sg 123) true i a i1 e1 a1 i2 e2 a2 h1 h2 with ⟨A,C,D,_,_,I⟩|⟨A,C,_⟩
 ·refine .inl ⟨A,C,D,?_⟩;rw [I]
  rfl
 ·obtain ⟨h,D,I⟩:=C rfl;refine .inr ⟨A,h,D,?_⟩;rw [I]
theorem G7(s)(k n:Nat)(acc)(j a ac e1 R O J Q:Nat)(ah:n=acc.length)(ai:n<=6)(h0:eqs (TT s j) (sg 125)=false)(h1:(ac,e1,R)=SV s (decide ((n:Int)<6)) j a)(h2:(O,J,Q)=EN s (sg 58) ac e1 R):
  (J=0/\Q=a/\O=j+2/\n<6/\dg (TT s) (PP s) (k+1) acc j=(match fb (TT s) (PP s) 4 O with
   | .error e=> .error e
   | .ok (x,m)=>if eqs (TT s m) (sg 59) then dg (TT s) (PP s) k (acc++[⟨TT s j,PP s j,x⟩]) (m+1) else .error (2,m)))\/(J≠0/\∃I,Q=PP s I/\dg (TT s) (PP s) (k+1) acc j=.error (J,I)):=by
 rcases we s (sg 58) _ j a ac e1 R O J Q h1 h2 with ⟨U,V,Y,ad,C,D⟩|⟨U,V,Y,ad⟩
 ·have ae:n<6:=by have:=of_decide_eq_true C;omega
  have ab:¬(acc.length=6):=aj;refine .inl ⟨U,V,Y,ae,?_⟩;have Z:(c9 (TT s j)&&acc.length==6)=false:=by simp [ab]
  rw [dg,h0];simp only [Z,bz,aP];unfold kH;rw [D];simp only
  cases fb (TT s) (PP s) 4 O with
  |error e=>rfl
  |ok y=>
   obtain ⟨x,m⟩:=y;simp only
   cases eqs (TT s m) (sg 59)<;>rfl
 ·refine .inr ⟨U,?_⟩;rw [dg,h0];simp only [bz,aP]
  by_cases ae:n<6
  ·obtain ⟨I,C,D⟩:=V aM;have ab:¬(acc.length=6):=aj;have Z:(c9 (TT s j)&&acc.length==6)=false:=by simp [ab]
   refine ⟨I,C,?_⟩;simp only [Z,bz,aP];unfold kH;rw [D]
  have ag:acc.length=6:=aj
  cases af:c9 (TT s j)
  ·obtain ⟨I,C,D⟩:=Y af;refine ⟨I,C,?_⟩;simp only [dR,bz,aP];unfold kH;rw [D]
  obtain ⟨C,D⟩:=ad af aM;refine ⟨j,C,?_⟩;simp [ag,D]
theorem via{h:Prop}{P:Nat->Nat->af->Prop}{A:Nat->Nat->af->Act}{C:Nat->Nat->af->af}{K:Act->af->Prop}(main:(∀g c w,P g c w->K (A g c w) (C g c w))->h)(key:∀g c w,P g c w->K (A g c w) (C g c w)):h:=main key
def KPost(base b:Nat)(s:ae)(tv:ag)(i a:Nat)(kl:List (ae×Nat))(rl:List RV)(pl:List PV)(w:af)(C:eC Ty)(e:Ending)(w':af):Prop:=
 e=.returned (.tuple #[])/\Below base w w'/\∃kv rv pv A h j6 D j e' a',RM base w' b s tv j 0 e' a' kv rv pv A h j6 D/\(match C with
  | .ok (t,m)=>e'=0/\a'=a/\m=j/\i<j/\j6.length<=j/\h.length<=j/\A=kl++[(t.name,t.place)]/\∃rn tt,h=rl++rn/\j6=pl++tt/\jk j6 t.name rn t.rels
  | .error (c,jj)=>c≠0/\e'=c/\a'=PP s jj)
def T7(s:ae)(i a:Nat)(rl:List RV)(pl:List PV)(h:eC Ty)(k n j e aa:Nat)(C:List RV)(j6:List PV):Prop:=
 (e=0/\aa=a/\i<j/\j6.length<=j/\C.length<=j/\512<=k+j/\n<=6/\∃acc rn tt,n=acc.length/\C=rl++rn/\j6=pl++tt/\jk j6 (TT s i) rn acc/\K7 (TT s i) (PP s i) (dg (TT s) (PP s) k acc j)=h)\/
 (e≠0/\∃A,aa=PP s A/\h=.error (e,A))
def T8(s:ae)(a h:Nat)(pl t:List PV)(m D C A:Nat):Prop:=match fb (TT s) (PP s) 4 h with
 | .ok (x,jx)=>D=jx/\C=0/\A=a/\h<jx/\(pl++t).length+h<=pl.length+jx/\∃f,Tr (pl++t) f m x
 | .error (c,jj)=>c≠0/\C=c/\A=PP s jj
theorem OG(s i a rl pl R fu n j acc rn tt rl' j6 i2 j3 e3 a3 i4 e4 a4 m t)(ac:i<j)(ai:j6.length<=j)(ak:rl'.length<=j)(ad:512<=fu+1+j)(ag:n<6)(ab:i2=j+2)(ah:n=acc.length)(Q:rl'=rl++rn)(Y:j6=pl++tt)(O:jk j6 (TT s i) rn acc)(C:K7 (TT s i) (PP s i) (dg (TT s) (PP s) (fu+1) acc j)=R) (U:dg (TT s) (PP s) (fu+1) acc j=(match fb (TT s) (PP s) 4 i2 with
   | .error e=> .error e
   | .ok (x,m)=>if eqs (TT s m) (sg 59) then dg (TT s) (PP s) fu (acc++[⟨TT s j,PP s j,x⟩]) (m+1) else .error (2,m))) (hex:T8 s a i2 j6 t m j3 e3 a3) (D:(i4,e4,a4)=EN s (sg 59) j3 e3 a3):T7 s i a rl pl R fu (n+1) i4 e4 a4 (rl'++[⟨TT s i,TT s j,PP s j,m⟩]) (j6++t):=by
 unfold T8 at hex;rw [U] at C
 cases J:fb (TT s) (PP s) 4 i2 with
 |error er=>
  obtain ⟨c,Z⟩:=er;rw [J] at hex C;obtain ⟨hc,rfl,rfl⟩:=hex;simp only [EN,hc,aP,Prod.mk.injEq] at D;obtain ⟨rfl,rfl,rfl⟩:=D;exact .inr ⟨hc,Z,rfl,by rw [<-C];rfl⟩
 |ok y=>
  obtain ⟨x,al⟩:=y;rw [J] at hex C;obtain ⟨rfl,rfl,rfl,af,ae,f,V⟩:=hex;simp only [EN,if_true] at D;simp only at C
  cases I:eqs (TT s j3) (sg 59)
  ·simp only [I,bz,aP,Prod.mk.injEq] at D C;obtain ⟨rfl,rfl,rfl⟩:=D;exact .inr ⟨aj,_,rfl,by rw [<-C];rfl⟩
  simp only [I,if_true,Prod.mk.injEq] at D C;obtain ⟨rfl,rfl,rfl⟩:=D;refine .inl ⟨rfl,rfl,aj,aj,aM,aj,aj,acc++[⟨TT s j,PP s j,x⟩],rn++[⟨TT s i,TT s j,PP s j,m⟩],tt++t,aM,by rw [Q];simp,by rw [Y];simp,?_,C⟩;exact jk.snoc (tn:=TT s i) ⟨rfl,rfl,rfl,f,V⟩ _ _ (jk.more t _ _ O)
theorem K8(base b s tv i a kv rv pv kl rl pl l w)(ax:RM base w b s tv i 0 0 a kv rv pv kl rl pl l)(D:base<=b)(Q:base<=w.heap.size)(eB:pl.length<=i)(eA:kl.length<=1000)(eF:rl.length<=i):
  Calls prog 190 #[.pointer (some ⟨b,0,none⟩)] w (KPost base b s tv i a kl rl pl w (l7 (TT s) (PP s) i)):=by
 obtain ⟨cy,cz,rfl⟩:=ay ax.kt;obtain ⟨ej,bl,bp,bq,br⟩:=bH Tryz.infoKd;have c2:=ai bl;have c3:=ai bp;have c4:=ai bq;have c7:=ai br;clear bl bp bq br;obtain ⟨ek,bl,bp,bq,br⟩:=bH Tryz.infoRl;have dZ:=ai bl;have d0:=ai bp;have d1:=ai bq;have d2:=ai br;clear bl bp bq br;generalize dm:l7 (TT s) (PP s) i=bJ;have cV:=ai dm;have dV:=ai ax;have eD:=ax.rs.lt;have C:=ai (vE b s tv i 0 a _ rv pv true w ax.rs);clear ax dm;go_enter func190,ntmps190;go_wp2_with fail;refine C.u.mono ?_;rintro e w1 ⟨rfl,bQ,dC,e1,a1,dx,dO⟩;have cQ:=ai (dV.u.but bQ D Q dO);have eJ:=bQ.size;have b2:=ai (bQ.below D Q);have dY:=ai dx;clear bQ dO dx C;unfold o7;have ci:=(aw _ w1).alloc az (ep (TT s i) (PP s i) (bM (TT s i)));have dn:base<=w1.heap.size:=aL Q b2.u.size;have aS:=ai (cQ.u.below ci D dn);have TB:=ai (aB.new w1 #[.string (TT s i),.int .i64 (PP s i),.bool (bM (TT s i))] 259);have cL:=ai (b2.u.trans (ci.mono dn));clear ci;go_wp2_with fail;have eM:=TB.u.lt;generalize eH:w1.heap.size=cI at*;generalize w1.alloc (ep (TT s i) (PP s i) (bM (TT s i)))=W at*;have d8:base<=W.heap.size:=aj;obtain ⟨ab,ac,ad,r3,ae,V,Y,af⟩:=aS.u.rs.blk.eight;obtain ⟨bw,b0,cK⟩:=TB.u.three;have Z:=aS.u.rs.blk;have cw:=Z.fz;have en:=bj W _ V;have cA:=bj W _ bw;have cB:=bj W _ b0;have c5:(W.alloc (mQ (TT s i) (PP s i))).cell? ⟨b,5,none⟩=some (.slice cy kl.length cz):=(Z.alloc _).cell rfl;have cq:¬(b=W.heap.size):=by have:=Z.lt;omega
 have aX:=ai Z;have av:=ai aS.u.kt;clear Z;have a4:=ai (show ∀u∈kC (TT s i,PP s i),u.oneCell'=true from by
  intro u bo;simp only [kC,bA,fG,fH] at bo
  rcases bo with rfl|rfl<;>rfl)
 have aU:=ai (show kl.length+1<=maxLen from by unfold maxLen;omega);have aY:=ai (show (kl.length+1)*24<=140737488355328 from aj);have a5:=ai (show base<=(W.alloc (mQ (TT s i) (PP s i))).drew.heap.size from by
  have:=((aw _ W).alloc az (mQ (TT s i) (PP s i))).drew.size;omega)
 have aZ:=ai (show (W.alloc (mQ (TT s i) (PP s i))).drew.heap.size=W.heap.size+1 from an);rename_i K bi;apply via (K:=K) (P:=fun g5 aV w5=>(W.alloc (mQ (TT s i) (PP s i))).drew.grownBy w5 (Value.slice cy kl.length cz).ownBlock/\w5.ownsRow base 170 2 (.slice (some ⟨g5,0,none⟩) (kl.length+1) aV) (kl.length+1) (kl.flatMap kC++kC (TT s i,PP s i)))
 case main=>
  intro key;have ce:=ai key;clear key
  go_region_law (refine iZ _ rfl (.tmp 14) (.tmp 20) 164 rfl base 170 ej _ 2 24 underlying164 c2.u c3.u c4.u c7.u rfl ar (.slice cy kl.length cz) kl.length (kl.flatMap kC) eW (bX (av.u.alloc _)) ⟨W.heap.size,0,none⟩ 1 1 (kC (TT s i,PP s i)) eW rfl (bE (B:=W.heap.size) (cs:=#[.string (TT s i),.int .i64 (PP s i)]) (t:=170) (fr:=(0,0)) (aB.new W _ _).drew) a4.u ar aU.u aY.u a5.u (W.heap.size+1) aZ.u ?_;intro g5 aV w5 dv co d5 ex;have a6:=bX (av.u.alloc (mQ (TT s i) (PP s i)));have ah:=(aX.u.alloc (mQ (TT s i) (PP s i))).drew;have al:aB w5 b _ 252:=(co.block b ah.lt (own_ne a6 ah ar)).trans ah;obtain ⟨dG,dH,dI,dJ,dK,dL,dM,dN⟩:=al.eight;have zq:=al.fz;have bx:=ai co;have bF:=ai dv;have em:=al.lt;clear a6 ah al co dv d5)
  all_goals exact ce.u g5 aV w5 ⟨bx.u,bF.u⟩
 case key=>
  rintro g5 aV w5 ⟨bx,bF⟩;obtain ⟨cF,dk,dF⟩:=aS.u.kinds D d8 (((aw _ W).alloc az (mQ (TT s i) (PP s i))).drew) bx bF;have dT:=dF.blk TB.u ar ar;have eK:=cL.u.size;have b7:=ai (cL.u.trans dk);have aJ:cI≠b:=aj;clear bx bF dF dk a4 aU aY a5 aZ av aX c5 cA cB en cw ab ac ad r3 ae V Y af bw b0 cK aS c2 c3 c4 c7 cQ b2 TB cq;refine bi _ _ ?_;clear bi K;generalize w5.setCell ⟨b,5,none⟩ (.slice (some ⟨g5,0,none⟩) (kl.length+1) aV)=de at*;have dq:base<=de.heap.size:=aL Q b7.u.size;have C:=ai (kN b s tv dC 0 e1 a1 _ rv pv (sg 123) de cF.rs ar);have cS:=ai cF;have db:=ai dT;clear cF dT;go_wp2_with fail;refine C.u.mono ?_;rintro e eO ⟨rfl,bR,cx,cj,a2,dz,dQ⟩;have cT:=ai (cS.u.but bR D dq dQ);have dc:=ai (db.u.but bR aJ);have cM:=ai (b7.u.trans (bR.below D dq));have aH:=ai (show T7 s i a rl pl bJ 512 0 cx cj a2 rl pl from by
   rcases C4 s i a dC e1 a1 cx cj a2 dY.u dz with ⟨h1,h2,bO,d4⟩|⟨h1,aM,h2,bO⟩
   ·exact .inl ⟨h1,h2,aj,aj,aj,aj,aj,[],[],[],rfl,an,an,trivial,by rw [d4];exact cV.u⟩
   exact .inr ⟨h1,aM,h2,by rw [<-bO];exact cV.u.symm⟩)
  clear bR dQ dz C cS db b7;go_wp2_with fail
  go_loopg [3] 512 (fun k eq wr=>∃(n j e aa:Nat)(aN pv':ag)(I:List RV)(j6:List PV)(aA:List PX),eq=.int .i64 n/\RM base wr b s tv j 0 e aa (.slice (some ⟨g5,0,none⟩) (kl.length+1) aV) aN pv' (kl++[(TT s i,PP s i)]) I j6 aA/\aB wr cI #[.string (TT s i),.int .i64 (PP s i),.bool (bM (TT s i))] 259/\Below base w wr/\n+k<=512/\Hid (T7 s i a rl pl bJ k n j e aa I j6))
  case atStart=>exact ⟨0,cx,cj,a2,rv,pv,rl,pl,l,rfl,cT.u,dc.u,cM.u,aj,aH⟩
  case round=>
   clear cT dc cM aH;obtain ⟨n,j,e,aa,aN,pv',I,j6,aA,rfl,O,bP,bh,eE,bC⟩:=hrel;have bV:base<=wr.heap.size:=aL Q bh.size;have bD:=ai O;have bB:=ai bh;have cZ:=ai bP
   rcases ak bC with ⟨rfl,rfl,eb,eh,ei,ed,ee,acc,rn,tt,du,ct,cu,cr,U⟩|⟨d9,aM,ck,U⟩
   ·have eC:=O.rs.gd.le;have eG:=O.rs.sz;obtain ⟨be,rfl⟩:∃f,gk=f+1:=⟨gk-1,aj⟩;obtain ⟨ab,ac,ad,r3,ae,V,Y,af⟩:=O.rs.blk.eight;have cU:=ai du;have cW:=ai cr;have cd:=ai U;clear du;have cX:=ai ct;have c1:=ai cu
    cases bg:eqs (TT s j) (sg 125)
    ·have C:=ai (b3 b s tv j 0 aa _ aN pv' (sg 125) wr O.rs false bg);obtain ⟨bZ,rc,rfl⟩:=ay O.rt;have ew:=O.rs.fm.2.2;clear O bP bh bC cr U ct cu;go_wp2_with fail;refine C.u.mono ?_;rintro e' bv ⟨rfl,au⟩;have ap:=ai (bD.u.below au D bV);have aE:=ai (bB.u.trans (au.mono bV));have c9:=ai (cZ.u.below au);have bT:base<=bv.heap.size:=aL Q aE.u.size;have cN:=ai (vE b s tv j 0 aa _ _ pv' (decide ((n:Int)<6)) bv ap.u.rs);clear au C ab ac ad r3 ae V Y af bD bB cZ;go_wp2_with fail;refine cN.u.mono ?_;rintro e' aD ⟨rfl,bS,dD,dl,di,dy,dR⟩;have aW:=ai (ap.u.but bS D bT dR);have ch:=ai (c9.u.but bS aJ);have aO:=ai (aE.u.trans (bS.below D bT));have dr:base<=aD.heap.size:=aL Q aO.u.size;have cY:=ai dy;clear bS dR dy cN ap c9 aE;unfold o7;have bL:=(aw _ aD).alloc az (ep (TT s j) (PP s j) (bM (TT s j)));have cb:=ai (aW.u.below bL D dr);have da:=ai (ch.u.below bL);have dh:=ai (aB.new aD #[.string (TT s j),.int .i64 (PP s j),.bool (bM (TT s j))] 259);have b8:=ai (aO.u.trans (bL.mono dr));have dB:aD.heap.size≠b:=by have:=aW.u.rs.lt;omega
     have eI:cI≠aD.heap.size:=by have:=ch.u.lt;omega
     have ds:base<=(aD.alloc (ep (TT s j) (PP s j) (bM (TT s j)))).heap.size:=aL Q b8.u.size;have cO:=ai (kN b s tv dD 0 dl di _ _ pv' (sg 58) _ cb.u.rs ar);clear bL aW ch aO;go_wp2_with fail;refine cO.u.mono ?_;rintro e' cJ ⟨rfl,bk,aK,bN,aI,dA,dS⟩;have R:=ai (cb.u.but bk D ds dS);have a7:=ai (da.u.but bk aJ);have bK:=ai (dh.u.but bk dB);have aQ:=ai (b8.u.trans (bk.below D ds));have bU:base<=cJ.heap.size:=aL Q aQ.u.size;obtain ⟨ab,ac,ad,r3,ae,V,Y,af⟩:=R.u.rs.blk.eight;have d3:=G7 s be n acc j aa dD dl di aK bN aI cU.u ee bg cY.u dA;clear bk dS dA cO cb da dh b8 cY
     rcases d3 with ⟨rfl,rfl,ea,ef,bW⟩|⟨cm,aM,ck,bW⟩
     ·have dX:=ai bW;have cP:=ai (q3 s 4 0 rfl base b tv aK aI _ _ pv' j6 aA cJ R.u.rs R.u.pt D bU aj);clear bW;go_wp2_with fail;refine cP.u.mono ?_;rintro e' J ⟨m,rfl,cC,P0,l1,t,tl,fr,pt,rfl,rfl,dt,U⟩;obtain ⟨bt,ba,a3,dP,hex⟩:∃bt ba a3,RS J b s tv bt 0 ba a3 (.slice (some ⟨g5,0,none⟩) (kl.length+1) aV) (.slice bZ I.length rc) cC/\T8 s aI aK j6 t m bt ba a3:=by
       unfold T8
       cases bY:fb (TT s) (PP s) 4 aK with
       |error er=>
        obtain ⟨c,aM⟩:=er;rw [bY] at U;obtain ⟨hc,j',ez,cH,_⟩:=U;exact ⟨j',c,PP s aM,cH,hc,rfl,rfl⟩
       |ok y=>
        obtain ⟨x,el⟩:=y;rw [bY] at U;obtain ⟨cH,h1,h2,bO⟩:=U;exact ⟨el,0,aI,cH,rfl,rfl,rfl,h1,h2,bO⟩
      have aG:=ai (R.u.fr fr pt dP (fun x bY=>(aT.1 bY).elim (R.u.fh x) (fun ax=>(dt x ax).mono bU)));have cf:=ai (fr.blk a7.u aJ (gC R.u.pt.row a7.u ar));have df:=ai (fr.blk bK.u dB (gC R.u.pt.row bK.u ar));have b4:=ai (aQ.u.trans fr.below);have dW:=ai hex;clear fr pt dP dt U hex cP R a7 bK aQ ab ac ad r3 ae V Y af;go_wp2_with fail;generalize eL:aD.heap.size=eP at*;have d7:base<=J.heap.size:=aL Q b4.u.size;have eN:=aG.u.rs.lt;obtain ⟨ab,ac,ad,r3,ae,V,Y,af⟩:=aG.u.rs.blk.eight;obtain ⟨bw,b0,cK⟩:=cf.u.three;obtain ⟨dU,et,eu⟩:=df.u.three;have Z:=aG.u.rs.blk;have cw:=Z.fz;have eo:=bj J _ Y;have cA:=bj J _ bw;have cB:=bj J _ dU;have c6:(J.alloc (jM (TT s i) (TT s j) (PP s j) m)).cell? ⟨b,6,none⟩=some (.slice bZ I.length rc):=(Z.alloc _).cell rfl;have cq:¬(b=J.heap.size):=aj;have aX:=ai Z;have av:=ai aG.u.rt;clear Z;have a4:=ai (show ∀u∈rC ⟨TT s i,TT s j,PP s j,m⟩,u.oneCell'=true from by
       intro u bo;simp only [rC,bA,fG,fH] at bo
       rcases bo with rfl|rfl|rfl|rfl<;>rfl)
      have aU:=ai (show I.length+1<=maxLen from by unfold maxLen;omega);have aY:=ai (show (I.length+1)*48<=140737488355328 from aj);have a5:=ai (show base<=(J.alloc (jM (TT s i) (TT s j) (PP s j) m)).drew.heap.size from by
       have:=((aw _ J).alloc az (jM (TT s i) (TT s j) (PP s j) m)).drew.size;omega)
      have aZ:=ai (show (J.alloc (jM (TT s i) (TT s j) (PP s j) m)).drew.heap.size=J.heap.size+1 from an);rename_i K bi;apply via (K:=K) (P:=fun bf a9 aC=>(J.alloc (jM (TT s i) (TT s j) (PP s j) m)).drew.grownBy aC (Value.slice bZ I.length rc).ownBlock/\aC.ownsRow base 172 4 (.slice (some ⟨bf,0,none⟩) (I.length+1) a9) (I.length+1) (I.flatMap rC++rC ⟨TT s i,TT s j,PP s j,m⟩))
      case main=>
       intro key;have ce:=ai key;clear key
       go_region_law (refine iZ _ rfl (.tmp 60) (.tmp 69) 165 rfl base 172 ek _ 4 48 underlying165 dZ.u d0.u d1.u d2.u rfl ar (.slice bZ I.length rc) I.length (I.flatMap rC) eW (bX (av.u.alloc _)) ⟨J.heap.size,0,none⟩ 1 1 (rC ⟨TT s i,TT s j,PP s j,m⟩) eW rfl (bE (B:=J.heap.size) (cs:=#[.string (TT s i),.string (TT s j),.int .i64 (PP s j),.int .i64 m]) (t:=172) (fr:=(0,0)) (aB.new J _ _).drew) a4.u ar aU.u aY.u a5.u (J.heap.size+1) aZ.u ?_;intro bf a9 aC dw cp d6 ey;have a6:=bX (av.u.alloc (jM (TT s i) (TT s j) (PP s j) m));have ah:=(aX.u.alloc (jM (TT s i) (TT s j) (PP s j) m)).drew;have al:aB aC b _ 252:=(cp.block b ah.lt (own_ne a6 ah ar)).trans ah;obtain ⟨dG,dH,dI,dJ,dK,dL,dM,dN⟩:=al.eight;have zq:=al.fz;have bz:=ai cp;have bI:=ai dw;have em:=al.lt;clear a6 ah al cp dw d6)
       all_goals exact ce.u bf a9 aC ⟨bz.u,bI.u⟩
      case key=>
       rintro bf a9 aC ⟨bz,bI⟩;obtain ⟨cE,dj,dE⟩:=aG.u.rels D d7 (((aw _ J).alloc az (jM (TT s i) (TT s j) (PP s j) m)).drew) bz bI;have c8:=ai (dE.blk cf.u ar ar);have b5:=ai (b4.u.trans dj);clear bz bI dE dj a4 aU aY a5 aZ av aX c6 cA cB eo cw ab ac ad r3 ae V Y af bw b0 cK dU et eu aG cf df b4 cq;refine bi _ _ ?_;clear bi K;generalize aC.setCell ⟨b,6,none⟩ (.slice (some ⟨bf,0,none⟩) (I.length+1) a9)=dd at*;have dp:base<=dd.heap.size:=aL Q b5.u.size;have aR:=ai (kN b s tv bt 0 ba a3 _ _ cC (sg 59) dd cE.rs ar);have cR:=ai cE;clear cE;go_wp2_with fail;refine aR.u.mono ?_;rintro e' es ⟨rfl,am,bs,bb,a8,bn,bu⟩;have b9:=ai (cR.u.but am D dp bu);have cg:=ai (c8.u.but am aJ);have b6:=ai (b5.u.trans (am.below D dp));have aH:=ai (OG s i aI rl pl bJ be n j acc rn tt I j6 aK bt ba a3 bs bb a8 m t eb eh ei ed ef ea cU.u cX.u c1.u cW.u cd.u dX.u dW.u bn);clear am bu bn aR cR c8 b5;go_wp2
       go_roundg be
       case measure=>omega
       case rel=>exact ⟨n+1,bs,bb,a8,_,cC,I++[⟨TT s i,TT s j,PP s j,m⟩],j6++t,aA++tl,by go_num,by simpa using b9.u,cg.u,b6.u,aj,aH⟩
     have cl:¬((bN:Int)=0):=aj;have ev:((bN:Int)==0)=false:=bG.2 cl;have aR:=ai (kN b s tv aK 0 bN aI _ _ pv' (sg 59) cJ R.u.rs ar);go_wp2_with fail;refine aR.u.mono ?_;rintro e' es ⟨rfl,am,bs,bb,a8,bn,bu⟩;simp only [EN,cm,aP,Prod.mk.injEq] at bn;obtain ⟨rfl,rfl,rfl⟩:=bn;have b9:=ai (R.u.but am D bU bu);have cg:=ai (a7.u.but am aJ);have b6:=ai (aQ.u.trans (am.below D bU));have aH:=ai (show T7 s i aa rl pl bJ be (n+1) bs bb a8 I j6 from .inr ⟨cm,aM,ck,by rw [<-cd.u,bW];rfl⟩);clear am bu aR R a7 bK aQ ab ac ad r3 ae V Y af;go_wp2
     go_roundg be
     case measure=>omega
     case rel=>exact ⟨n+1,bs,bb,a8,_,pv',I,j6,aA,by go_num,b9.u,cg.u,b6.u,aj,aH⟩
    have C:=ai (b3 b s tv j 0 aa _ aN pv' (sg 125) wr O.rs true bg);have ec:=O.rs.gd.succ (cG bg ar);clear O bP bh bC cr U ct cu;go_wp2_with fail;refine C.u.mono ?_;rintro e' bv ⟨rfl,au⟩;have ap:=ai (bD.u.below au D bV);have aE:=ai (bB.u.trans (au.mono bV));obtain ⟨dG,dH,dI,dJ,dK,dL,dM,dN⟩:=ap.u.rs.blk.eight;have zq:=ap.u.rs.blk.fz;have bT:base<=bv.heap.size:=aL Q aE.u.size;have aW:=ai (ap.u.but ((But.refl b bv).setCell 1 (.int .i64 ((j:Int)+1))) D bT (ap.u.rs.setI (j+1) ec));have aO:=ai (aE.u.setCell (p:=⟨b,1,none⟩) D (.int .i64 ((j:Int)+1)));clear au C ab ac ad r3 ae V Y af;go_wp2;refine bc (results_none rfl _ _ _) rfl ⟨rfl,aO.u,_,aN,pv',_,I,j6,aA,j+1,0,aa,aW.u,?_⟩;rw [<-cd.u,dg,bg];exact ⟨rfl,rfl,rfl,aj,aj,aj,rfl,rn,tt,cX.u,c1.u,cW.u⟩
   have cl:¬((e:Int)=0):=aj;have cm:((e:Int)==0)=false:=bG.2 cl;obtain ⟨ab,ac,ad,r3,ae,V,Y,af⟩:=O.rs.blk.eight;clear O bP bh bC;go_wp2;go_end0;refine ⟨rfl,bB.u,_,aN,pv',_,I,j6,aA,j,e,aa,bD.u,?_⟩;rw [U];exact ⟨d9,rfl,ck⟩
