import Derived.Test.YtlbpnlngckgcbaaGreatDoorM16
set_option linter.all false
set_option maxHeartbeats 4000000
set_option maxRecDepth 100000
namespace Go.Proofs.YtlbpnlngckgcbaaGreatDoor
open Go.RowKit Go.PlainAid Go.Proofs.Tryz
variable {aD br:Prop} {pl:List PV} {tn:ae} {r:Rl}
abbrev Bp:=@of_decide_eq_true
def LW(pl:List PV)(tn:ae)(x:RV)(r:Rl):Prop:=x.kd=tn/\x.nm=r.name/\x.pl=r.place/\∃f,Tr pl f x.ex r.body
def jQ(pl:List PV)(tn:ae):List RV->List Rl->Prop
 | [],[]=>True
 |x::xs,r::rs=>LW pl tn x r/\jQ pl tn xs rs
 |_,_=>False
def LW.more{x}(h:LW pl tn x r)(t):LW (pl++t) tn x r:=⟨h.1,h.2.1,h.2.2.1,by obtain ⟨f,A⟩:=h.2.2.2;exact ⟨f,Tr.more pl t f _ _ A⟩⟩
def jQ.more{pl tn}(t):∀(xs:List RV)(rs:List Rl),jQ pl tn xs rs->jQ (pl++t) tn xs rs
 | [],[],_=>trivial
 |x::xs,r::rs,h=>⟨h.1.more t,jQ.more t xs rs h.2⟩
 | [],_::_,h=>h.elim
 |_::_,[],h=>h.elim
def jQ.snoc{pl tn y q}(k:LW pl tn y q):∀(xs:List RV)(rs:List Rl),jQ pl tn xs rs->jQ pl tn (xs++[y]) (rs++[q])
 | [],[],_=>⟨k,trivial⟩
 |x::xs,r::rs,h=>⟨h.1,jQ.snoc k xs rs h.2⟩
 | [],_::_,h=>h.elim
 |_::_,[],h=>h.elim
def mR(T:Nat->ae)(P:Nat->Nat)(i:Nat):eJ Ty:=match cb T (sg 123) i with
 | .error e=> .error e
 | .ok (_,j)=>match dj T P 512 [] j with
  | .error e=> .error e
  | .ok (rs,m)=> .ok (⟨T i,P i,rs⟩,m)
def kw(T P i):j5 T P i=if eqs (T i) jN then mR T P (i+1) else .error (2,i):=rfl
def Qm(n:ae)(p:Nat)(r:eJ (List Rl)):eJ Ty:=match r with
 | .error e=> .error e
 | .ok (rs,m)=> .ok (⟨n,p,rs⟩,m)
def zj(s x rm i a i1 e1 a1 i2 e2 a2)(h1:(i1,e1,a1)=ZY s rm i a)(h2:(i2,e2,a2)=Jy s x i1 e1 a1):
  (e2=0/\a2=a/\i2=i+2/\dC (TT s i)=true/\rm=true/\cb (TT s) x i=.ok ((),i2))\/(e2≠0/\((rm=true->∃A,a2=PP s A/\cb (TT s) x i=.error (e2,A))/\(dC (TT s i)=false->∃A,a2=PP s A/\cb (TT s) x i=.error (e2,A))/\(dC (TT s i)=true->rm=false->a2=PP s i/\e2=3))):=by
 unfold ZY at h1;unfold cb di
 cases hn:dC (TT s i)
 ·simp only [hn,bJ,a8,Prod.mk.injEq] at h1;obtain ⟨rfl,rfl,rfl⟩:=h1;simp only [Jy,Nat.reduceEqDiff,a8,Prod.mk.injEq] at h2;obtain ⟨rfl,rfl,rfl⟩:=h2;exact .inr ⟨ai,fun _=>⟨_,rfl,au⟩,fun _=>⟨_,rfl,au⟩,(fun h=>by cases h)⟩
 ·simp only [hn,if_true] at h1
  by_cases hl:(TT s i).size<=8
  ·cases I:rm
   ·simp only [hl,I,bJ,and_false,a8,Prod.mk.injEq] at h1;obtain ⟨rfl,rfl,rfl⟩:=h1;simp only [Jy,Nat.reduceEqDiff,a8,Prod.mk.injEq] at h2;obtain ⟨rfl,rfl,rfl⟩:=h2;exact .inr ⟨ai,(fun h=>by cases h),(fun h=>by cases h),fun _ _=>⟨rfl,rfl⟩⟩
   simp only [hl,I,and_self,if_true,Prod.mk.injEq] at h1;obtain ⟨rfl,rfl,rfl⟩:=h1;have D:¬(8<(TT s i).size):=ai;simp only [Jy,if_true] at h2
   cases C:eqs (TT s (i+1)) x
   ·simp only [C,bJ,a8,Prod.mk.injEq] at h2;obtain ⟨rfl,rfl,rfl⟩:=h2;exact .inr ⟨ai,fun _=>⟨_,rfl,by simp [D,C]⟩,(fun h=>by cases h),(fun _ h=>by cases h)⟩
   simp only [C,if_true,Prod.mk.injEq] at h2;obtain ⟨rfl,rfl,rfl⟩:=h2;exact .inl ⟨rfl,rfl,rfl,rfl,rfl,by simp [D,C]⟩
  have D:8<(TT s i).size:=ai;simp only [hl,false_and,a8,Prod.mk.injEq] at h1;obtain ⟨rfl,rfl,rfl⟩:=h1;simp only [Jy,Nat.reduceEqDiff,a8,Prod.mk.injEq] at h2;obtain ⟨rfl,rfl,rfl⟩:=h2;exact .inr ⟨ai,fun _=>⟨_,rfl,by simp [D]⟩,(fun h=>by cases h),fun _ _=>⟨rfl,rfl⟩⟩
def Hh(s i a i1 e1 a1 i2 e2 a2)(h1:(i1,e1,a1)=ZY s true i a)(h2:(i2,e2,a2)=Jy s (sg 123) i1 e1 a1):
  (e2=0/\a2=a/\i2=i+2/\Qm (TT s i) (PP s i) (dj (TT s) (PP s) 512 [] i2)=mR (TT s) (PP s) i)\/(e2≠0/\∃h,a2=PP s h/\mR (TT s) (PP s) i=.error (e2,h)):=by
 unfold mR
 rcases zj s (sg 123) true i a i1 e1 a1 i2 e2 a2 h1 h2 with ⟨A,C,D,_,_,I⟩|⟨A,C,_⟩
 ·refine .inl ⟨A,C,D,?_⟩;rw [I]
  rfl
 ·obtain ⟨h,D,I⟩:=C rfl;refine .inr ⟨A,h,D,?_⟩;rw [I]
def LY(s)(k n:Nat)(acc)(j a ac e1 R J I Q:Nat)(ah:n=acc.length)(aj:n<=6)(h0:eqs (TT s j) (sg 125)=false)(h1:(ac,e1,R)=ZY s (decide ((n:Int)<6)) j a)(h2:(J,I,Q)=Jy s (sg 58) ac e1 R):
  (I=0/\Q=a/\J=j+2/\n<6/\dj (TT s) (PP s) (k+1) acc j=(match fq (TT s) (PP s) 4 J with
   | .error e=> .error e
   | .ok (x,m)=>if eqs (TT s m) (sg 59) then dj (TT s) (PP s) k (acc++[⟨TT s j,PP s j,x⟩]) (m+1) else .error (2,m)))\/(I≠0/\∃D,Q=PP s D/\dj (TT s) (PP s) (k+1) acc j=.error (I,D)):=by
 rcases zj s (sg 58) _ j a ac e1 R J I Q h1 h2 with ⟨U,V,Y,ad,A,C⟩|⟨U,V,Y,ad⟩
 ·have ae:n<6:=by have:=Bp A;omega
  have ab:¬(acc.length=6):=ai;refine .inl ⟨U,V,Y,ae,?_⟩;have Z:(dC (TT s j)&&acc.length==6)=false:=by simp [ab]
  rw [dj,h0];simp only [Z,bJ,a8];unfold kS;rw [C];simp only
  cases fq (TT s) (PP s) 4 J with
  |error e=>rfl
  |ok y=>
   obtain ⟨x,m⟩:=y;simp only
   cases eqs (TT s m) (sg 59)<;>rfl
 ·refine .inr ⟨U,?_⟩;rw [dj,h0];simp only [bJ,a8]
  by_cases ae:n<6
  ·obtain ⟨D,A,C⟩:=V aS;have ab:¬(acc.length=6):=ai;have Z:(dC (TT s j)&&acc.length==6)=false:=by simp [ab]
   refine ⟨D,A,?_⟩;simp only [Z,bJ,a8];unfold kS;rw [C]
  have ag:acc.length=6:=ai
  cases af:dC (TT s j)
  ·obtain ⟨D,A,C⟩:=Y af;refine ⟨D,A,?_⟩;simp only [eK,bJ,a8];unfold kS;rw [C]
  obtain ⟨A,C⟩:=ad af aS;refine ⟨j,A,?_⟩;simp [ag,C]
def via{h:Prop}{P:Nat->Nat->af->Prop}{A:Nat->Nat->af->Act}{C:Nat->Nat->af->af}{K:Act->af->Prop}(main:(∀g c w,P g c w->K (A g c w) (C g c w))->h)(key:∀g c w,P g c w->K (A g c w) (C g c w)):h:=main key
def KPost(base b:Nat)(s:ae)(tv:ag)(i a:Nat)(kl:List (ae×Nat))(rl:List RV)(pl:List PV)(w:af)(R:eJ Ty)(e:Ending)(w':af):Prop:=
 e=bj (.tuple #[])/\Below base w w'/\∃kv rv pv A h kM C j e' a',RM base w' b s tv j 0 e' a' kv rv pv A h kM C/\(match R with
  | .ok (t,m)=>e'=0/\a'=a/\m=j/\i<j/\kM.length<=j/\h.length<=j/\A=kl++[(t.name,t.place)]/\∃rn tt,h=rl++rn/\kM=pl++tt/\jQ kM t.name rn t.rels
  | .error (c,jj)=>c≠0/\e'=c/\a'=PP s jj)
def KdC(s:ae)(i a:Nat)(rl:List RV)(pl:List PV)(R:eJ Ty)(k n j e aa:Nat)(A:List RV)(kM:List PV):Prop:=
 (e=0/\aa=a/\i<j/\kM.length<=j/\A.length<=j/\512<=k+j/\n<=6/\∃acc rn tt,n=acc.length/\A=rl++rn/\kM=pl++tt/\jQ kM (TT s i) rn acc/\Qm (TT s i) (PP s i) (dj (TT s) (PP s) k acc j)=R)\/
 (e≠0/\∃h,aa=PP s h/\R=.error (e,h))
def ExS(s:ae)(a h:Nat)(pl t:List PV)(m D C A:Nat):Prop:=match fq (TT s) (PP s) 4 h with
 | .ok (x,jx)=>D=jx/\C=0/\A=a/\h<jx/\(pl++t).length+h<=pl.length+jx/\∃f,Tr (pl++t) f m x
 | .error (c,jj)=>c≠0/\C=c/\A=PP s jj
def Vr(s i a rl pl R fu n j acc rn tt rl' kM i2 j3 e3 a3 i4 e4 a4 m t)(ac:i<j)(aj:kM.length<=j)(ak:rl'.length<=j)(ad:512<=fu+1+j)(ag:n<6)(ab:i2=j+2)(ah:n=acc.length)(Q:rl'=rl++rn)(Y:kM=pl++tt)(J:jQ kM (TT s i) rn acc)(A:Qm (TT s i) (PP s i) (dj (TT s) (PP s) (fu+1) acc j)=R) (U:dj (TT s) (PP s) (fu+1) acc j=(match fq (TT s) (PP s) 4 i2 with
   | .error e=> .error e
   | .ok (x,m)=>if eqs (TT s m) (sg 59) then dj (TT s) (PP s) fu (acc++[⟨TT s j,PP s j,x⟩]) (m+1) else .error (2,m))) (hex:ExS s a i2 kM t m j3 e3 a3) (C:(i4,e4,a4)=Jy s (sg 59) j3 e3 a3):KdC s i a rl pl R fu (n+1) i4 e4 a4 (rl'++[⟨TT s i,TT s j,PP s j,m⟩]) (kM++t):=by
 unfold ExS at hex;rw [U] at A
 cases I:fq (TT s) (PP s) 4 i2 with
 |error er=>
  obtain ⟨c,Z⟩:=er;rw [I] at hex A;obtain ⟨hc,rfl,rfl⟩:=hex;simp only [Jy,hc,a8,Prod.mk.injEq] at C;obtain ⟨rfl,rfl,rfl⟩:=C;exact .inr ⟨hc,Z,rfl,by rw [<-A];rfl⟩
 |ok y=>
  obtain ⟨x,al⟩:=y;rw [I] at hex A;obtain ⟨rfl,rfl,rfl,af,ae,f,V⟩:=hex;simp only [Jy,if_true] at C;simp only at A
  cases D:eqs (TT s j3) (sg 59)
  ·simp only [D,bJ,a8,Prod.mk.injEq] at C A;obtain ⟨rfl,rfl,rfl⟩:=C;exact .inr ⟨ai,_,rfl,by rw [<-A];rfl⟩
  simp only [D,if_true,Prod.mk.injEq] at C A;obtain ⟨rfl,rfl,rfl⟩:=C;refine .inl ⟨rfl,rfl,ai,ai,aS,ai,ai,acc++[⟨TT s j,PP s j,x⟩],rn++[⟨TT s i,TT s j,PP s j,m⟩],tt++t,aS,by rw [Q];simp,by rw [Y];simp,?_,A⟩;exact jQ.snoc (tn:=TT s i) ⟨rfl,rfl,rfl,f,V⟩ _ _ (jQ.more t _ _ J)
def Qn(base b s tv i a kv rv pv kl rl pl l w)(h:RM base w b s tv i 0 0 a kv rv pv kl rl pl l)(A:base<=b)(J:base<=w.heap.size)(ed:pl.length<=i)(eb:kl.length<=1000)(eh:rl.length<=i):
  Calls prog 190 #[bc b] w (KPost base b s tv i a kl rl pl w (mR (TT s) (PP s) i)):=by
 obtain ⟨di,dk,rfl⟩:=ax h.kt;generalize cW:mR (TT s) (PP s) i=R;have cB:=ak cW;have dD:=ak h;have ef:=h.rs.lt;have C:=ak (yK b s tv i 0 a _ rv pv true w h.rs);clear h cW;go_enter func190,ntmps190;go_wp2_with fail;refine C.u.mono ?_;rintro e w1 ⟨rfl,bA,dg,e1,cR,db,dw⟩;have cw:=ak (dD.u.but bA A J dw);have el:=bA.size;have bK:=ak (bA.below A J);have dG:=ak db;clear bA dw db C;unfold CA;have bZ:=(aA _ w1).alloc aH (.cells #[aj (TT s i),ar (PP s i),.bool (ec (TT s i))] 259);have cX:base<=w1.heap.size:=aV J bK.u.size;have aT:=ak (cw.u.below bZ A cX);have TB:=ak (aL.new w1 #[aj (TT s i),ar (PP s i),.bool (ec (TT s i))] 259);have cp:=ak (bK.u.trans (bZ.mono cX));clear bZ;go_wp2_with fail;have eo:=TB.u.lt;generalize ej:w1.heap.size=cl at*;generalize w1.alloc (.cells #[aj (TT s i),ar (PP s i),.bool (ec (TT s i))] 259)=W at*;have dM:base<=W.heap.size:=ai;obtain ⟨ac,ad,ae,r3,af,V,Y,ah⟩:=aT.u.rs.blk.eight;obtain ⟨bk,bJ,co⟩:=TB.u.three;have ab:=aT.u.rs.blk;have b9:=ab.fz;have dZ:=ce W _ V;have cd:=ce W _ bk;have cf:=ce W _ bJ;have c5:(W.alloc (.cells #[aj (TT s i),ar (PP s i)] 170)).cell? (aC b 5)=some (aw di kl.length dk):=(ab.alloc _).cell rfl;have b5:¬(b=W.heap.size):=by have:=ab.lt;omega
 have aX:=ak ab;have aY:=ak aT.u.kt;clear ab;rename_i K ba;apply via (K:=K) (P:=fun g5 bf w5=>(W.alloc (.cells #[aj (TT s i),ar (PP s i)] 170)).drew.grownBy w5 (Value.slice di kl.length dk).ownBlock/\w5.ownsRow base 170 2 (aw (some (aN g5)) (kl.length+1) bf) (kl.length+1) (kl.flatMap kC++kC (TT s i,PP s i)))
 case main=>
  intro key;have bT:=ak key;clear key
  go_region_law (refine AC rfl underlying164 Tryz.infoKd base (cQ (aY.u.alloc _)) ((aX.u.alloc (.cells #[aj (TT s i),ar (PP s i)] 170)).drew) W.heap.size 1 (kC (TT s i,PP s i)) (W.heap.size+1) ?_;intro g5 bf w5 c9 c4 dJ d7 al;obtain ⟨dn,dp,dq,dr,ds,dt,du,dv⟩:=al.eight;have zq:=al.fz;have bl:=ak c4;have bs:=ak c9;have dY:=al.lt;clear al c4 c9 dJ)
  all_goals exact bT.u g5 bf w5 ⟨bl.u,bs.u⟩
 case key=>
  rintro g5 bf w5 ⟨bl,bs⟩;obtain ⟨cj,cU,dm⟩:=aT.u.kinds A dM (((aA _ W).alloc aH (.cells #[aj (TT s i),ar (PP s i)] 170)).drew) bl bs;have dB:=dm.blk TB.u ay ay;have em:=cp.u.size;have bO:=ak (cp.u.trans cU);have aJ:cl≠b:=ai;clear bl bs dm cU aY aX c5 cd cf dZ b9 ac ad ae r3 af V Y ah bk bJ co aT cw bK TB b5;refine ba _ _ ?_;clear ba K;generalize w5.setCell (aC b 5) (aw (some (aN g5)) (kl.length+1) bf)=cN at*;have cZ:base<=cN.heap.size:=aV J bO.u.size;have C:=ak (lz b s tv dg 0 e1 cR _ rv pv (sg 123) cN cj.rs ay);have cy:=ak cj;have cK:=ak dB;clear cj dB;go_wp2_with fail;refine C.u.mono ?_;rintro e eq ⟨rfl,bB,cb,b0,bY,dd,dy⟩;have cz:=ak (cy.u.but bB A cZ dy);have cL:=ak (cK.u.but bB aJ);have cq:=ak (bO.u.trans (bB.below A cZ));have aG:=ak (show KdC s i a rl pl R 512 0 cb b0 bY rl pl from by
   rcases Hh s i a dg e1 cR cb b0 bY dG.u dd with ⟨h1,h2,bx,dI⟩|⟨h1,aM,h2,bx⟩
   ·exact .inl ⟨h1,h2,ai,ai,ai,ai,ai,[],[],[],rfl,au,au,trivial,by rw [dI];exact cB.u⟩
   exact .inr ⟨h1,aM,h2,by rw [<-bx];exact cB.u.symm⟩)
  clear bB dy dd C cy cK bO;go_wp2_with fail
  go_loopg [3] 512 (fun k d1 wr=>∃(n j e aa:Nat)(aO pv':ag)(D:List RV)(kM:List PV)(av:List PX),d1=ar n/\RM base wr b s tv j 0 e aa (aw (some (aN g5)) (kl.length+1) bf) aO pv' (kl++[(TT s i,PP s i)]) D kM av/\aL wr cl #[aj (TT s i),ar (PP s i),.bool (ec (TT s i))] 259/\Below base w wr/\n+k<=512/\Hid (KdC s i a rl pl R k n j e aa D kM))
  ·exact ⟨0,cb,b0,bY,rv,pv,rl,pl,l,rfl,cz.u,cL.u,cq.u,ai,aG⟩
  clear cz cL cq aG;obtain ⟨n,j,e,aa,aO,pv',D,kM,av,rfl,I,bz,a9,eg,bp⟩:=hrel;have bG:base<=wr.heap.size:=aV J a9.size;have bq:=ak I;have bo:=ak a9;have cF:=ak bz
  rcases aE bp with ⟨rfl,rfl,dQ,dV,dW,dS,dT,acc,rn,tt,c8,b7,b8,b6,U⟩|⟨dN,aM,b2,U⟩
  ·have ee:=I.rs.gd.le;have ei:=I.rs.sz;obtain ⟨a5,rfl⟩:∃f,gk=f+1:=⟨gk-1,ai⟩;obtain ⟨ac,ad,ae,r3,af,V,Y,ah⟩:=I.rs.blk.eight;have cA:=ak c8;have cC:=ak b6;have bS:=ak U;clear c8;have cD:=ak b7;have cG:=ak b8
   cases a7:eqs (TT s j) (sg 125)
   ·have C:=ak (ea b s tv j 0 aa _ aO pv' (sg 125) wr I.rs false a7);obtain ⟨ch,rc,rfl⟩:=ax I.rt;have d6:=I.rs.fm.2.2;clear I bz a9 bp b6 U b7 b8;go_wp2_with fail;refine C.u.mono ?_;rintro e' bj ⟨rfl,ap⟩;have an:=ak (bq.u.below ap A bG);have aB:=ak (bo.u.trans (ap.mono bG));have cI:=ak (cF.u.below ap);have bD:base<=bj.heap.size:=aV J aB.u.size;have cr:=ak (yK b s tv j 0 aa _ _ pv' (decide ((n:Int)<6)) bj an.u.rs);clear ap C ac ad ae r3 af V Y ah bq bo cF;go_wp2_with fail;refine cr.u.mono ?_;rintro e' az ⟨rfl,bC,dh,cV,cS,dc,dz⟩;have aU:=ak (an.u.but bC A bD dz);have bX:=ak (cI.u.but bC aJ);have aQ:=ak (aB.u.trans (bC.below A bD));have c1:base<=az.heap.size:=aV J aQ.u.size;have cE:=ak dc;clear bC dz dc cr an cI aB;unfold CA;have bv:=(aA _ az).alloc aH (.cells #[aj (TT s j),ar (PP s j),.bool (ec (TT s j))] 259);have bR:=ak (aU.u.below bv A c1);have cJ:=ak (bX.u.below bv);have cP:=ak (aL.new az #[aj (TT s j),ar (PP s j),.bool (ec (TT s j))] 259);have bP:=ak (aQ.u.trans (bv.mono c1));have df:az.heap.size≠b:=by have:=aU.u.rs.lt;omega
    have ek:cl≠az.heap.size:=by have:=bX.u.lt;omega
    have c2:base<=(az.alloc (.cells #[aj (TT s j),ar (PP s j),.bool (ec (TT s j))] 259)).heap.size:=aV J bP.u.size;have ct:=ak (lz b s tv dh 0 cV cS _ _ pv' (sg 58) _ bR.u.rs ay);clear bv aU bX aQ;go_wp2_with fail;refine ct.u.mono ?_;rintro e' cm ⟨rfl,bb,aK,bw,aI,de,dA⟩;have Q:=ak (bR.u.but bb A c2 dA);have aZ:=ak (cJ.u.but bb aJ);have bu:=ak (cP.u.but bb df);have aR:=ak (bP.u.trans (bb.below A c2));have bE:base<=cm.heap.size:=aV J aR.u.size;obtain ⟨ac,ad,ae,r3,af,V,Y,ah⟩:=Q.u.rs.blk.eight;have dH:=LY s a5 n acc j aa dh cV cS aK bw aI cA.u dT a7 cE.u de;clear bb dA de ct bR cJ cP bP cE
    rcases dH with ⟨rfl,rfl,dO,dU,bH⟩|⟨b4,aM,b2,bH⟩
    ·have dF:=ak bH;have cu:=ak (s8 s 4 0 rfl base b tv aK aI _ _ pv' kM av cm Q.u.rs Q.u.pt A bE ai);clear bH;go_wp2_with fail;refine cu.u.mono ?_;rintro e' Z ⟨m,rfl,cg,ZW,l1,t,tl,fr,pt,rfl,rfl,c3,U⟩;obtain ⟨bh,a3,a0,dx,hex⟩:∃bh a3 a0,RS Z b s tv bh 0 a3 a0 (aw (some (aN g5)) (kl.length+1) bf) (aw ch D.length rc) cg/\ExS s aI aK kM t m bh a3 a0:=by
      unfold ExS
      cases bI:fq (TT s) (PP s) 4 aK with
      |error er=>
       obtain ⟨c,aM⟩:=er;rw [bI] at U;obtain ⟨hc,j',d9,ck,_⟩:=U;exact ⟨j',c,PP s aM,ck,hc,rfl,rfl⟩
      |ok y=>
       obtain ⟨x,dX⟩:=y;rw [bI] at U;obtain ⟨ck,h1,h2,bx⟩:=U;exact ⟨dX,0,aI,ck,rfl,rfl,rfl,h1,h2,bx⟩
     have aF:=ak (Q.u.fr fr pt dx (fun x bI=>(aW.1 bI).elim (Q.u.fh x) (fun h=>(c3 x h).mono bE)));have bU:=ak (fr.blk aZ.u aJ (gN Q.u.pt.row aZ.u ay));have cO:=ak (fr.blk bu.u df (gN Q.u.pt.row bu.u ay));have bL:=ak (aR.u.trans fr.below);have dE:=ak hex;clear fr pt dx c3 U hex cu Q aZ bu aR ac ad ae r3 af V Y ah;go_wp2_with fail;generalize en:az.heap.size=es at*;have dL:base<=Z.heap.size:=aV J bL.u.size;have ep:=aF.u.rs.lt;obtain ⟨ac,ad,ae,r3,af,V,Y,ah⟩:=aF.u.rs.blk.eight;obtain ⟨bk,bJ,co⟩:=bU.u.three;obtain ⟨dC,d3,d4⟩:=cO.u.three;have ab:=aF.u.rs.blk;have b9:=ab.fz;have d0:=ce Z _ Y;have cd:=ce Z _ bk;have cf:=ce Z _ dC;have c6:(Z.alloc (.cells #[aj (TT s i),aj (TT s j),ar (PP s j),ar m] 172)).cell? (aC b 6)=some (aw ch D.length rc):=(ab.alloc _).cell rfl;have b5:¬(b=Z.heap.size):=ai;have aX:=ak ab;have aY:=ak aF.u.rt;clear ab;rename_i K ba;apply via (K:=K) (P:=fun a6 a2 aP=>(Z.alloc (.cells #[aj (TT s i),aj (TT s j),ar (PP s j),ar m] 172)).drew.grownBy aP (Value.slice ch D.length rc).ownBlock/\aP.ownsRow base 172 4 (aw (some (aN a6)) (D.length+1) a2) (D.length+1) (D.flatMap rC++rC ⟨TT s i,TT s j,PP s j,m⟩))
     case main=>
      intro key;have bT:=ak key;clear key
      go_region_law (refine AC rfl underlying165 Tryz.infoRl base (cQ (aY.u.alloc _)) ((aX.u.alloc (.cells #[aj (TT s i),aj (TT s j),ar (PP s j),ar m] 172)).drew) Z.heap.size 1 (rC ⟨TT s i,TT s j,PP s j,m⟩) (Z.heap.size+1) ?_;intro a6 a2 aP da c7 dK d8 al;obtain ⟨dn,dp,dq,dr,ds,dt,du,dv⟩:=al.eight;have zq:=al.fz;have bn:=ak c7;have bt:=ak da;have dY:=al.lt;clear al c7 da dK)
      all_goals exact bT.u a6 a2 aP ⟨bn.u,bt.u⟩
     case key=>
      rintro a6 a2 aP ⟨bn,bt⟩;obtain ⟨ci,cT,dl⟩:=aF.u.rels A dL (((aA _ Z).alloc aH (.cells #[aj (TT s i),aj (TT s j),ar (PP s j),ar m] 172)).drew) bn bt;have cH:=ak (dl.blk bU.u ay ay);have bM:=ak (bL.u.trans cT);clear bn bt dl cT aY aX c6 cd cf d0 b9 ac ad ae r3 af V Y ah bk bJ co dC d3 d4 aF bU cO bL b5;refine ba _ _ ?_;clear ba K;generalize aP.setCell (aC b 6) (aw (some (aN a6)) (D.length+1) a2)=cM at*;have cY:base<=cM.heap.size:=aV J bM.u.size;have aS:=ak (lz b s tv bh 0 a3 a0 _ _ cg (sg 59) cM ci.rs ay);have cx:=ak ci;clear ci;go_wp2_with fail;refine aS.u.mono ?_;rintro e' d2 ⟨rfl,am,bg,a4,a1,be,bi⟩;have bQ:=ak (cx.u.but am A cY bi);have bV:=ak (cH.u.but am aJ);have bN:=ak (bM.u.trans (am.below A cY));have aG:=ak (Vr s i aI rl pl R a5 n j acc rn tt D kM aK bh a3 a0 bg a4 a1 m t dQ dV dW dS dU dO cA.u cD.u cG.u cC.u bS.u dF.u dE.u be);clear am bi be aS cx cH bM;go_wp2
      go_roundg a5
      case measure=>omega
      case rel=>exact ⟨n+1,bg,a4,a1,_,cg,D++[⟨TT s i,TT s j,PP s j,m⟩],kM++t,av++tl,by go_num,by simpa using bQ.u,bV.u,bN.u,ai,aG⟩
    have b3:¬((bw:Int)=0):=ai;have d5:((bw:Int)==0)=false:=bW.2 b3;have aS:=ak (lz b s tv aK 0 bw aI _ _ pv' (sg 59) cm Q.u.rs ay);go_wp2_with fail;refine aS.u.mono ?_;rintro e' d2 ⟨rfl,am,bg,a4,a1,be,bi⟩;simp only [Jy,b4,a8,Prod.mk.injEq] at be;obtain ⟨rfl,rfl,rfl⟩:=be;have bQ:=ak (Q.u.but am A bE bi);have bV:=ak (aZ.u.but am aJ);have bN:=ak (aR.u.trans (am.below A bE));have aG:=ak (.inr ⟨b4,aM,b2,by rw [<-bS.u,bH];rfl⟩:KdC s i aa rl pl R a5 (n+1) bg a4 a1 D kM);clear am bi aS Q aZ bu aR ac ad ae r3 af V Y ah;go_wp2
    go_roundg a5
    case measure=>omega
    case rel=>exact ⟨n+1,bg,a4,a1,_,pv',D,kM,av,by go_num,bQ.u,bV.u,bN.u,ai,aG⟩
   have C:=ak (ea b s tv j 0 aa _ aO pv' (sg 125) wr I.rs true a7);have dR:=I.rs.gd.succ (dP a7 ay);clear I bz a9 bp b6 U b7 b8;go_wp2_with fail;refine C.u.mono ?_;rintro e' bj ⟨rfl,ap⟩;have an:=ak (bq.u.below ap A bG);have aB:=ak (bo.u.trans (ap.mono bG));obtain ⟨dn,dp,dq,dr,ds,dt,du,dv⟩:=an.u.rs.blk.eight;have zq:=an.u.rs.blk.fz;have bD:base<=bj.heap.size:=aV J aB.u.size;have aU:=ak (an.u.but ((But.refl b bj).setCell 1 (ar ((j:Int)+1))) A bD (an.u.rs.setI (j+1) dR));have aQ:=ak (aB.u.setCell (p:=⟨b,1,none⟩) A (ar ((j:Int)+1)));clear ap C ac ad ae r3 af V Y ah;go_wp2;refine bF (results_none rfl _ _ _) rfl ⟨rfl,aQ.u,_,aO,pv',_,D,kM,av,j+1,0,aa,aU.u,?_⟩;rw [<-bS.u,dj,a7];exact ⟨rfl,rfl,rfl,ai,ai,ai,rfl,rn,tt,cD.u,cG.u,cC.u⟩
  have b3:¬((e:Int)=0):=ai;have b4:((e:Int)==0)=false:=bW.2 b3;obtain ⟨ac,ad,ae,r3,af,V,Y,ah⟩:=I.rs.blk.eight;clear I bz a9 bp;go_wp2;go_end0;refine ⟨rfl,bo.u,_,aO,pv',_,D,kM,av,j,e,aa,bq.u,?_⟩;rw [U];exact ⟨dN,rfl,b2⟩
