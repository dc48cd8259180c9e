import Derived.Test.YtlbpnlngckgcbaaGreatDoorM16
set_option linter.all false
set_option maxHeartbeats 4000000
set_option maxRecDepth 100000
namespace Go.Proofs.YtlbpnlngckgcbaaGreatDoor
open Go.RowKit Go.PlainAid Go.Proofs.Tryz
variable {aD bq:Prop} {pl:List PV} {tn:ae} {r:Rl}
abbrev BW:=@of_decide_eq_true
abbrev qg(a0:ae)(a1:ae)(a2:Int)(a3:Int):Obj:=.cells #[an a0,an a1,au a2,au a3] 172
def Mw(pl:List PV)(tn:ae)(x:RV)(r:Rl):Prop:=x.kd=tn/\x.nm=r.name/\x.pl=r.place/\∃f,Tr pl f x.ex r.body
def jT(pl:List PV)(tn:ae):List RV->List Rl->Prop
 | [],[]=>True
 |x::xs,r::rs=>Mw pl tn x r/\jT pl tn xs rs
 |_,_=>False
def Mw.more{x}(h:Mw pl tn x r)(t):Mw (pl++t) tn x r:=⟨h.1,h.2.1,h.2.2.1,by obtain ⟨f,A⟩:=h.2.2.2;exact ⟨f,Tr.more pl t f _ _ A⟩⟩
def jT.more{pl tn}(t):∀(xs:List RV)(rs:List Rl),jT pl tn xs rs->jT (pl++t) tn xs rs
 | [],[],_=>trivial
 |x::xs,r::rs,h=>⟨h.1.more t,jT.more t xs rs h.2⟩
 | [],_::_,h=>h.elim
 |_::_,[],h=>h.elim
def jT.snoc{pl tn y q}(k:Mw pl tn y q):∀(xs:List RV)(rs:List Rl),jT pl tn xs rs->jT pl tn (xs++[y]) (rs++[q])
 | [],[],_=>⟨k,trivial⟩
 |x::xs,r::rs,h=>⟨h.1,jT.snoc k xs rs h.2⟩
 | [],_::_,h=>h.elim
 |_::_,[],h=>h.elim
def m2(T:Nat->ae)(P:Nat->Nat)(i:Nat):eL Ty:=match b9 T (sg 123) i with
 | .error e=> .error e
 | .ok (_,j)=>match di T P 512 [] j with
  | .error e=> .error e
  | .ok (rs,m)=> .ok (⟨T i,P i,rs⟩,m)
def kA(T P i):j8 T P i=if eqs (T i) jQ then m2 T P (i+1) else .error (2,i):=rfl
def QQ(n:ae)(p:Nat)(r:eL (List Rl)):eL Ty:=match r with
 | .error e=> .error e
 | .ok (rs,m)=> .ok (⟨n,p,rs⟩,m)
def zU(s x rm i a i1 e1 a1 i2 e2 a2)(h1:(i1,e1,a1)=nmS s rm i a)(h2:(i2,e2,a2)=J3 s x i1 e1 a1):
  (e2=0/\a2=a/\i2=i+2/\dC (TT s i)=true/\rm=true/\b9 (TT s) x i=.ok ((),i2))\/(e2≠0/\((rm=true->∃A,a2=PP s A/\b9 (TT s) x i=.error (e2,A))/\(dC (TT s i)=false->∃A,a2=PP s A/\b9 (TT s) x i=.error (e2,A))/\(dC (TT s i)=true->rm=false->a2=PP s i/\e2=3))):=by
 unfold nmS at h1;unfold b9 dh
 cases hn:dC (TT s i)
 ·simp only [hn,bJ,aZ,Prod.mk.injEq] at h1;obtain ⟨rfl,rfl,rfl⟩:=h1;simp only [J3,Nat.reduceEqDiff,aZ,Prod.mk.injEq] at h2;obtain ⟨rfl,rfl,rfl⟩:=h2;exact .inr ⟨ai,fun _=>⟨_,rfl,ar⟩,fun _=>⟨_,rfl,ar⟩,(fun h=>by cases h)⟩
 ·simp only [hn,if_true] at h1
  by_cases hl:(TT s i).size<=8
  ·cases I:rm
   ·simp only [hl,I,bJ,and_false,aZ,Prod.mk.injEq] at h1;obtain ⟨rfl,rfl,rfl⟩:=h1;simp only [J3,Nat.reduceEqDiff,aZ,Prod.mk.injEq] at h2;obtain ⟨rfl,rfl,rfl⟩:=h2;exact .inr ⟨ai,(fun h=>by cases h),(fun h=>by cases h),fun _ _=>⟨rfl,rfl⟩⟩
   simp only [hl,I,and_self,if_true,Prod.mk.injEq] at h1;obtain ⟨rfl,rfl,rfl⟩:=h1;have D:¬(8<(TT s i).size):=ai;simp only [J3,if_true] at h2
   cases C:eqs (TT s (i+1)) x
   ·simp only [C,bJ,aZ,Prod.mk.injEq] at h2;obtain ⟨rfl,rfl,rfl⟩:=h2;exact .inr ⟨ai,fun _=>⟨_,rfl,by simp [D,C]⟩,(fun h=>by cases h),(fun _ h=>by cases h)⟩
   simp only [C,if_true,Prod.mk.injEq] at h2;obtain ⟨rfl,rfl,rfl⟩:=h2;exact .inl ⟨rfl,rfl,rfl,rfl,rfl,by simp [D,C]⟩
  have D:8<(TT s i).size:=ai;simp only [hl,false_and,aZ,Prod.mk.injEq] at h1;obtain ⟨rfl,rfl,rfl⟩:=h1;simp only [J3,Nat.reduceEqDiff,aZ,Prod.mk.injEq] at h2;obtain ⟨rfl,rfl,rfl⟩:=h2;exact .inr ⟨ai,fun _=>⟨_,rfl,by simp [D]⟩,(fun h=>by cases h),fun _ _=>⟨rfl,rfl⟩⟩
def H4(s i a i1 e1 a1 i2 e2 a2)(h1:(i1,e1,a1)=nmS s true i a)(h2:(i2,e2,a2)=J3 s (sg 123) i1 e1 a1):
  (e2=0/\a2=a/\i2=i+2/\QQ (TT s i) (PP s i) (di (TT s) (PP s) 512 [] i2)=m2 (TT s) (PP s) i)\/(e2≠0/\∃h,a2=PP s h/\m2 (TT s) (PP s) i=.error (e2,h)):=by
 unfold m2
 rcases zU s (sg 123) true i a i1 e1 a1 i2 e2 a2 h1 h2 with ⟨A,C,D,_,_,I⟩|⟨A,C,_⟩
 ·refine .inl ⟨A,C,D,?_⟩;rw [I]
  rfl
 ·obtain ⟨h,D,I⟩:=C rfl;refine .inr ⟨A,h,D,?_⟩;rw [I]
def Mx(s)(k n:Nat)(acc)(j a ac e1 R J I Q:Nat)(ah:n=acc.length)(aj:n<=6)(h0:eqs (TT s j) (sg 125)=false)(h1:(ac,e1,R)=nmS s (decide ((n:Int)<6)) j a)(h2:(J,I,Q)=J3 s (sg 58) ac e1 R):
  (I=0/\Q=a/\J=j+2/\n<6/\di (TT s) (PP s) (k+1) acc j=(match fp (TT s) (PP s) 4 J with
   | .error e=> .error e
   | .ok (x,m)=>if eqs (TT s m) (sg 59) then di (TT s) (PP s) k (acc++[⟨TT s j,PP s j,x⟩]) (m+1) else .error (2,m)))\/(I≠0/\∃D,Q=PP s D/\di (TT s) (PP s) (k+1) acc j=.error (I,D)):=by
 rcases zU s (sg 58) _ j a ac e1 R J I Q h1 h2 with ⟨U,V,Y,ad,A,C⟩|⟨U,V,Y,ad⟩
 ·have ae:n<6:=by have:=BW A;omega
  have ab:¬(acc.length=6):=ai;refine .inl ⟨U,V,Y,ae,?_⟩;have Z:(dC (TT s j)&&acc.length==6)=false:=by simp [ab]
  rw [di,h0];simp only [Z,bJ,aZ];unfold kW;rw [C];simp only
  cases fp (TT s) (PP s) 4 J with
  |error e=>rfl
  |ok y=>
   obtain ⟨x,m⟩:=y;simp only
   cases eqs (TT s m) (sg 59)<;>rfl
 ·refine .inr ⟨U,?_⟩;rw [di,h0];simp only [bJ,aZ]
  by_cases ae:n<6
  ·obtain ⟨D,A,C⟩:=V aS;have ab:¬(acc.length=6):=ai;have Z:(dC (TT s j)&&acc.length==6)=false:=by simp [ab]
   refine ⟨D,A,?_⟩;simp only [Z,bJ,aZ];unfold kW;rw [C]
  have ag:acc.length=6:=ai
  cases af:dC (TT s j)
  ·obtain ⟨D,A,C⟩:=Y af;refine ⟨D,A,?_⟩;simp only [eM,bJ,aZ];unfold kW;rw [C]
  obtain ⟨A,C⟩:=ad af aS;refine ⟨j,A,?_⟩;simp [ag,C]
def via{h:Prop}{P:Nat->Nat->af->Prop}{A:Nat->Nat->af->Act}{C:Nat->Nat->af->af}{K:Act->af->Prop}(main:(∀g c w,P g c w->K (A g c w) (C g c w))->h)(key:∀g c w,P g c w->K (A g c w) (C g c w)):h:=main key
def KPost(base b:Nat)(s:ae)(tv:ag)(i a:Nat)(kl:List (ae×Nat))(rl:List RV)(pl:List PV)(w:af)(R:eL Ty)(e:Ending)(w':af):Prop:=
 e=bi (.tuple #[])/\Below base w w'/\∃kv rv pv A h kQ C j e' a',RM base w' b s tv j 0 e' a' kv rv pv A h kQ C/\(match R with
  | .ok (t,m)=>e'=0/\a'=a/\m=j/\i<j/\kQ.length<=j/\h.length<=j/\A=kl++[(t.name,t.place)]/\∃rn tt,h=rl++rn/\kQ=pl++tt/\jT kQ t.name rn t.rels
  | .error (c,jj)=>c≠0/\e'=c/\a'=PP s jj)
def KdC(s:ae)(i a:Nat)(rl:List RV)(pl:List PV)(R:eL Ty)(k n j e aa:Nat)(A:List RV)(kQ:List PV):Prop:=
 (e=0/\aa=a/\i<j/\kQ.length<=j/\A.length<=j/\512<=k+j/\n<=6/\∃acc rn tt,n=acc.length/\A=rl++rn/\kQ=pl++tt/\jT kQ (TT s i) rn acc/\QQ (TT s i) (PP s i) (di (TT s) (PP s) k acc j)=R)\/
 (e≠0/\∃h,aa=PP s h/\R=.error (e,h))
def ExS(s:ae)(a h:Nat)(pl t:List PV)(m D C A:Nat):Prop:=match fp (TT s) (PP s) 4 h with
 | .ok (x,jx)=>D=jx/\C=0/\A=a/\h<jx/\(pl++t).length+h<=pl.length+jx/\∃f,Tr (pl++t) f m x
 | .error (c,jj)=>c≠0/\C=c/\A=PP s jj
def VT(s i a rl pl R fu n j acc rn tt rl' kQ i2 j3 e3 a3 i4 e4 a4 m t)(ac:i<j)(aj:kQ.length<=j)(ak:rl'.length<=j)(ad:512<=fu+1+j)(ag:n<6)(ab:i2=j+2)(ah:n=acc.length)(Q:rl'=rl++rn)(Y:kQ=pl++tt)(J:jT kQ (TT s i) rn acc)(A:QQ (TT s i) (PP s i) (di (TT s) (PP s) (fu+1) acc j)=R) (U:di (TT s) (PP s) (fu+1) acc j=(match fp (TT s) (PP s) 4 i2 with
   | .error e=> .error e
   | .ok (x,m)=>if eqs (TT s m) (sg 59) then di (TT s) (PP s) fu (acc++[⟨TT s j,PP s j,x⟩]) (m+1) else .error (2,m))) (hex:ExS s a i2 kQ t m j3 e3 a3) (C:(i4,e4,a4)=J3 s (sg 59) j3 e3 a3):KdC s i a rl pl R fu (n+1) i4 e4 a4 (rl'++[⟨TT s i,TT s j,PP s j,m⟩]) (kQ++t):=by
 unfold ExS at hex;rw [U] at A
 cases I:fp (TT s) (PP s) 4 i2 with
 |error er=>
  obtain ⟨c,Z⟩:=er;rw [I] at hex A;obtain ⟨hc,rfl,rfl⟩:=hex;simp only [J3,hc,aZ,Prod.mk.injEq] at C;obtain ⟨rfl,rfl,rfl⟩:=C;exact .inr ⟨hc,Z,rfl,by rw [<-A];rfl⟩
 |ok y=>
  obtain ⟨x,al⟩:=y;rw [I] at hex A;obtain ⟨rfl,rfl,rfl,af,ae,f,V⟩:=hex;simp only [J3,if_true] at C;simp only at A
  cases D:eqs (TT s j3) (sg 59)
  ·simp only [D,bJ,aZ,Prod.mk.injEq] at C A;obtain ⟨rfl,rfl,rfl⟩:=C;exact .inr ⟨ai,_,rfl,by rw [<-A];rfl⟩
  simp only [D,if_true,Prod.mk.injEq] at C A;obtain ⟨rfl,rfl,rfl⟩:=C;refine .inl ⟨rfl,rfl,ai,ai,aS,ai,ai,acc++[⟨TT s j,PP s j,x⟩],rn++[⟨TT s i,TT s j,PP s j,m⟩],tt++t,aS,by rw [Q];simp,by rw [Y];simp,?_,A⟩;exact jT.snoc (tn:=TT s i) ⟨rfl,rfl,rfl,f,V⟩ _ _ (jT.more t _ _ J)
def QS(base b s tv i a kv rv pv kl rl pl l w)(h:RM base w b s tv i 0 0 a kv rv pv kl rl pl l)(A:base<=b)(J:base<=w.heap.size)(ed:pl.length<=i)(eb:kl.length<=1000)(ei:rl.length<=i):
  Calls prog 190 #[bu b] w (KPost base b s tv i a kl rl pl w (m2 (TT s) (PP s) i)):=by
 obtain ⟨dk,dl,rfl⟩:=aw h.kt;generalize cX:m2 (TT s) (PP s) i=R;have cD:=aj cX;have dE:=aj h;have eg:=h.rs.lt;have C:=aj (zm b s tv i 0 a _ rv pv true w h.rs);clear h cX;go_enter func190,ntmps190;go_wp2_with fail;refine C.u.mono ?_;rintro e w1 ⟨rfl,bD,dh,e1,a1,dc,dx⟩;have cy:=aj (dE.u.but bD A J dx);have em:=bD.size;have bN:=aj (bD.below A J);have dH:=aj dc;clear bD dx dc C;unfold De;have b2:=(az _ w1).alloc aH (pX (TT s i) (PP s i) (ef (TT s i)));have cY:base<=w1.heap.size:=aV J bN.u.size;have aT:=aj (cy.u.below b2 A cY);have TB:=aj (aL.new w1 #[an (TT s i),au (PP s i),.bool (ef (TT s i))] 259);have cr:=aj (bN.u.trans (b2.mono cY));clear b2;go_wp2_with fail;have ep:=TB.u.lt;generalize ek:w1.heap.size=co at*;generalize w1.alloc (pX (TT s i) (PP s i) (ef (TT s i)))=W at*;have dN:base<=W.heap.size:=ai;obtain ⟨ac,ad,ae,r3,af,V,Y,ah⟩:=aT.u.rs.blk.eight;obtain ⟨bn,bM,cq⟩:=TB.u.three;have ab:=aT.u.rs.blk;have ce:=ab.fz;have d0:=cd W _ V;have cg:=cd W _ bn;have ch:=cd W _ bM;have c5:(W.alloc (.cells #[an (TT s i),au (PP s i)] 170)).cell? (aC b 5)=some (aA dk kl.length dl):=(ab.alloc _).cell rfl;have b7:¬(b=W.heap.size):=by have:=ab.lt;omega
 have aX:=aj ab;have aY:=aj aT.u.kt;clear ab;rename_i K bf;apply via (K:=K) (P:=fun g5 be w5=>(W.alloc (.cells #[an (TT s i),au (PP s i)] 170)).drew.grownBy w5 (Value.slice dk kl.length dl).ownBlock/\w5.ownsRow base 170 2 (aA (some (aP g5)) (kl.length+1) be) (kl.length+1) (kl.flatMap kC++kC (TT s i,PP s i)))
 case main=>
  intro key;have bX:=aj key;clear key
  go_region_law (refine Bc rfl underlying164 Tryz.infoKd base (cP (aY.u.alloc _)) ((aX.u.alloc (.cells #[an (TT s i),au (PP s i)] 170)).drew) W.heap.size 1 (kC (TT s i,PP s i)) (W.heap.size+1) ?_;intro g5 be w5 da c7 dK d8 ak;obtain ⟨dp,dq,dr,ds,dt,du,dv,dw⟩:=ak.eight;have zq:=ak.fz;have bo:=aj c7;have bv:=aj da;have dZ:=ak.lt;clear ak c7 da dK)
  all_goals exact bX.u g5 be w5 ⟨bo.u,bv.u⟩
 case key=>
  rintro g5 be w5 ⟨bo,bv⟩;obtain ⟨cl,cV,dn⟩:=aT.u.kinds A dN (((az _ W).alloc aH (.cells #[an (TT s i),au (PP s i)] 170)).drew) bo bv;have dC:=dn.blk TB.u ax ax;have en:=cr.u.size;have bS:=aj (cr.u.trans cV);have aJ:co≠b:=ai;clear bo bv dn cV aY aX c5 cg ch d0 ce ac ad ae r3 af V Y ah bn bM cq aT cy bN TB b7;refine bf _ _ ?_;clear bf K;generalize w5.setCell (aC b 5) (aA (some (aP g5)) (kl.length+1) be)=cQ at*;have c1:base<=cQ.heap.size:=aV J bS.u.size;have C:=aj (lH b s tv dh 0 e1 a1 _ rv pv (sg 123) cQ cl.rs ax);have cA:=aj cl;have cM:=aj dC;clear cl dC;go_wp2_with fail;refine C.u.mono ?_;rintro e es ⟨rfl,bF,cf,b3,a2,de,dz⟩;have cB:=aj (cA.u.but bF A c1 dz);have cN:=aj (cM.u.but bF aJ);have ct:=aj (bS.u.trans (bF.below A c1));have aG:=aj (show KdC s i a rl pl R 512 0 cf b3 a2 rl pl from by
   rcases H4 s i a dh e1 a1 cf b3 a2 dH.u de with ⟨h1,h2,bB,dJ⟩|⟨h1,aM,h2,bB⟩
   ·exact .inl ⟨h1,h2,ai,ai,ai,ai,ai,[],[],[],rfl,ar,ar,trivial,by rw [dJ];exact cD.u⟩
   exact .inr ⟨h1,aM,h2,by rw [<-bB];exact cD.u.symm⟩)
  clear bF dz de C cA cM bS;go_wp2_with fail
  go_loopg [3] 512 (fun k d2 wr=>∃(n j e aa:Nat)(aN pv':ag)(D:List RV)(kQ:List PV)(av:List PX),d2=au n/\RM base wr b s tv j 0 e aa (aA (some (aP g5)) (kl.length+1) be) aN pv' (kl++[(TT s i,PP s i)]) D kQ av/\aL wr co #[an (TT s i),au (PP s i),.bool (ef (TT s i))] 259/\Below base w wr/\n+k<=512/\Hid (KdC s i a rl pl R k n j e aa D kQ))
  ·exact ⟨0,cf,b3,a2,rv,pv,rl,pl,l,rfl,cB.u,cN.u,ct.u,ai,aG⟩
  clear cB cN ct aG;obtain ⟨n,j,e,aa,aN,pv',D,kQ,av,rfl,I,bC,bc,eh,bs⟩:=hrel;have bJ:base<=wr.heap.size:=aV J bc.size;have bt:=aj I;have br:=aj bc;have cH:=aj bC
  rcases aE bs with ⟨rfl,rfl,dQ,dW,dX,dT,dU,acc,rn,tt,c9,b9,cb,b8,U⟩|⟨dO,aM,b4,U⟩
  ·have ee:=I.rs.gd.le;have ej:=I.rs.sz;obtain ⟨a9,rfl⟩:∃f,gk=f+1:=⟨gk-1,ai⟩;obtain ⟨ac,ad,ae,r3,af,V,Y,ah⟩:=I.rs.blk.eight;have cC:=aj c9;have cE:=aj b8;have bW:=aj U;clear c9;have cF:=aj b9;have cI:=aj cb
   cases bb:eqs (TT s j) (sg 125)
   ·have C:=aj (ec b s tv j 0 aa _ aN pv' (sg 125) wr I.rs false bb);obtain ⟨cj,rc,rfl⟩:=aw I.rt;have d7:=I.rs.fm.2.2;clear I bC bc bs b8 U b9 cb;go_wp2_with fail;refine C.u.mono ?_;rintro e' bl ⟨rfl,ap⟩;have am:=aj (bt.u.below ap A bJ);have aB:=aj (br.u.trans (ap.mono bJ));have cK:=aj (cH.u.below ap);have bH:base<=bl.heap.size:=aV J aB.u.size;have cu:=aj (zm b s tv j 0 aa _ _ pv' (decide ((n:Int)<6)) bl am.u.rs);clear ap C ac ad ae r3 af V Y ah bt br cH;go_wp2_with fail;refine cu.u.mono ?_;rintro e' ay ⟨rfl,bG,dj,cW,cT,dd,dA⟩;have aU:=aj (am.u.but bG A bH dA);have b0:=aj (cK.u.but bG aJ);have aQ:=aj (aB.u.trans (bG.below A bH));have c2:base<=ay.heap.size:=aV J aQ.u.size;have cG:=aj dd;clear bG dA dd cu am cK aB;unfold De;have bz:=(az _ ay).alloc aH (pX (TT s j) (PP s j) (ef (TT s j)));have bV:=aj (aU.u.below bz A c2);have cL:=aj (b0.u.below bz);have cS:=aj (aL.new ay #[an (TT s j),au (PP s j),.bool (ef (TT s j))] 259);have bT:=aj (aQ.u.trans (bz.mono c2));have dg:ay.heap.size≠b:=by have:=aU.u.rs.lt;omega
    have el:co≠ay.heap.size:=by have:=b0.u.lt;omega
    have c3:base<=(ay.alloc (pX (TT s j) (PP s j) (ef (TT s j)))).heap.size:=aV J bT.u.size;have cw:=aj (lH b s tv dj 0 cW cT _ _ pv' (sg 58) _ bV.u.rs ax);clear bz aU b0 aQ;go_wp2_with fail;refine cw.u.mono ?_;rintro e' cp ⟨rfl,bg,aK,bA,aI,df,dB⟩;have Q:=aj (bV.u.but bg A c3 dB);have a4:=aj (cL.u.but bg aJ);have bx:=aj (cS.u.but bg dg);have aR:=aj (bT.u.trans (bg.below A c3));have bI:base<=cp.heap.size:=aV J aR.u.size;obtain ⟨ac,ad,ae,r3,af,V,Y,ah⟩:=Q.u.rs.blk.eight;have dI:=Mx s a9 n acc j aa dj cW cT aK bA aI cC.u dU bb cG.u df;clear bg dB df cw bV cL cS bT cG
    rcases dI with ⟨rfl,rfl,dP,dV,bK⟩|⟨b6,aM,b4,bK⟩
    ·have dG:=aj bK;have cx:=aj (tN s 4 0 rfl base b tv aK aI _ _ pv' kQ av cp Q.u.rs Q.u.pt A bI ai);clear bK;go_wp2_with fail;refine cx.u.mono ?_;rintro e' Z ⟨m,rfl,ci,pl1,l1,t,tl,fr,pt,rfl,rfl,c4,U⟩;obtain ⟨bj,a7,a3,dy,hex⟩:∃bj a7 a3,RS Z b s tv bj 0 a7 a3 (aA (some (aP g5)) (kl.length+1) be) (aA cj D.length rc) ci/\ExS s aI aK kQ t m bj a7 a3:=by
      unfold ExS
      cases bL:fp (TT s) (PP s) 4 aK with
      |error er=>
       obtain ⟨c,aM⟩:=er;rw [bL] at U;obtain ⟨hc,j',ea,cm,_⟩:=U;exact ⟨j',c,PP s aM,cm,hc,rfl,rfl⟩
      |ok y=>
       obtain ⟨x,dY⟩:=y;rw [bL] at U;obtain ⟨cm,h1,h2,bB⟩:=U;exact ⟨dY,0,aI,cm,rfl,rfl,rfl,h1,h2,bB⟩
     have aF:=aj (Q.u.fr fr pt dy (fun x bL=>(aW.1 bL).elim (Q.u.fh x) (fun h=>(c4 x h).mono bI)));have bY:=aj (fr.blk a4.u aJ (gP Q.u.pt.row a4.u ax));have cR:=aj (fr.blk bx.u dg (gP Q.u.pt.row bx.u ax));have bO:=aj (aR.u.trans fr.below);have dF:=aj hex;clear fr pt dy c4 U hex cx Q a4 bx aR ac ad ae r3 af V Y ah;go_wp2_with fail;generalize eo:ay.heap.size=et at*;have dM:base<=Z.heap.size:=aV J bO.u.size;have eq:=aF.u.rs.lt;obtain ⟨ac,ad,ae,r3,af,V,Y,ah⟩:=aF.u.rs.blk.eight;obtain ⟨bn,bM,cq⟩:=bY.u.three;obtain ⟨dD,d4,d5⟩:=cR.u.three;have ab:=aF.u.rs.blk;have ce:=ab.fz;have d1:=cd Z _ Y;have cg:=cd Z _ bn;have ch:=cd Z _ dD;have c6:(Z.alloc (qg (TT s i) (TT s j) (PP s j) m)).cell? (aC b 6)=some (aA cj D.length rc):=(ab.alloc _).cell rfl;have b7:¬(b=Z.heap.size):=ai;have aX:=aj ab;have aY:=aj aF.u.rt;clear ab;rename_i K bf;apply via (K:=K) (P:=fun ba a6 aO=>(Z.alloc (qg (TT s i) (TT s j) (PP s j) m)).drew.grownBy aO (Value.slice cj D.length rc).ownBlock/\aO.ownsRow base 172 4 (aA (some (aP ba)) (D.length+1) a6) (D.length+1) (D.flatMap rC++rC ⟨TT s i,TT s j,PP s j,m⟩))
     case main=>
      intro key;have bX:=aj key;clear key
      go_region_law (refine Bc rfl underlying165 Tryz.infoRl base (cP (aY.u.alloc _)) ((aX.u.alloc (qg (TT s i) (TT s j) (PP s j) m)).drew) Z.heap.size 1 (rC ⟨TT s i,TT s j,PP s j,m⟩) (Z.heap.size+1) ?_;intro ba a6 aO db c8 dL d9 ak;obtain ⟨dp,dq,dr,ds,dt,du,dv,dw⟩:=ak.eight;have zq:=ak.fz;have bp:=aj c8;have bw:=aj db;have dZ:=ak.lt;clear ak c8 db dL)
      all_goals exact bX.u ba a6 aO ⟨bp.u,bw.u⟩
     case key=>
      rintro ba a6 aO ⟨bp,bw⟩;obtain ⟨ck,cU,dm⟩:=aF.u.rels A dM (((az _ Z).alloc aH (qg (TT s i) (TT s j) (PP s j) m)).drew) bp bw;have cJ:=aj (dm.blk bY.u ax ax);have bP:=aj (bO.u.trans cU);clear bp bw dm cU aY aX c6 cg ch d1 ce ac ad ae r3 af V Y ah bn bM cq dD d4 d5 aF bY cR bO b7;refine bf _ _ ?_;clear bf K;generalize aO.setCell (aC b 6) (aA (some (aP ba)) (D.length+1) a6)=cO at*;have cZ:base<=cO.heap.size:=aV J bP.u.size;have aS:=aj (lH b s tv bj 0 a7 a3 _ _ ci (sg 59) cO ck.rs ax);have cz:=aj ck;clear ck;go_wp2_with fail;refine aS.u.mono ?_;rintro e' d3 ⟨rfl,al,bi,a8,a5,bh,bk⟩;have bU:=aj (cz.u.but al A cZ bk);have bZ:=aj (cJ.u.but al aJ);have bQ:=aj (bP.u.trans (al.below A cZ));have aG:=aj (VT s i aI rl pl R a9 n j acc rn tt D kQ aK bj a7 a3 bi a8 a5 m t dQ dW dX dT dV dP cC.u cF.u cI.u cE.u bW.u dG.u dF.u bh);clear al bk bh aS cz cJ bP;go_wp2
      go_roundg a9
      case measure=>omega
      case rel=>exact ⟨n+1,bi,a8,a5,_,ci,D++[⟨TT s i,TT s j,PP s j,m⟩],kQ++t,av++tl,by go_num,by simpa using bU.u,bZ.u,bQ.u,ai,aG⟩
    have b5:¬((bA:Int)=0):=ai;have d6:((bA:Int)==0)=false:=bR.2 b5;have aS:=aj (lH b s tv aK 0 bA aI _ _ pv' (sg 59) cp Q.u.rs ax);go_wp2_with fail;refine aS.u.mono ?_;rintro e' d3 ⟨rfl,al,bi,a8,a5,bh,bk⟩;simp only [J3,b6,aZ,Prod.mk.injEq] at bh;obtain ⟨rfl,rfl,rfl⟩:=bh;have bU:=aj (Q.u.but al A bI bk);have bZ:=aj (a4.u.but al aJ);have bQ:=aj (aR.u.trans (al.below A bI));have aG:=aj (.inr ⟨b6,aM,b4,by rw [<-bW.u,bK];rfl⟩:KdC s i aa rl pl R a9 (n+1) bi a8 a5 D kQ);clear al bk aS Q a4 bx aR ac ad ae r3 af V Y ah;go_wp2
    go_roundg a9
    case measure=>omega
    case rel=>exact ⟨n+1,bi,a8,a5,_,pv',D,kQ,av,by go_num,bU.u,bZ.u,bQ.u,ai,aG⟩
   have C:=aj (ec b s tv j 0 aa _ aN pv' (sg 125) wr I.rs true bb);have dS:=I.rs.gd.succ (dR bb ax);clear I bC bc bs b8 U b9 cb;go_wp2_with fail;refine C.u.mono ?_;rintro e' bl ⟨rfl,ap⟩;have am:=aj (bt.u.below ap A bJ);have aB:=aj (br.u.trans (ap.mono bJ));obtain ⟨dp,dq,dr,ds,dt,du,dv,dw⟩:=am.u.rs.blk.eight;have zq:=am.u.rs.blk.fz;have bH:base<=bl.heap.size:=aV J aB.u.size;have aU:=aj (am.u.but ((But.refl b bl).setCell 1 (au ((j:Int)+1))) A bH (am.u.rs.setI (j+1) dS));have aQ:=aj (aB.u.setCell (p:=⟨b,1,none⟩) A (au ((j:Int)+1)));clear ap C ac ad ae r3 af V Y ah;go_wp2;refine bE (results_none rfl _ _ _) rfl ⟨rfl,aQ.u,_,aN,pv',_,D,kQ,av,j+1,0,aa,aU.u,?_⟩;rw [<-bW.u,di,bb];exact ⟨rfl,rfl,rfl,ai,ai,ai,rfl,rn,tt,cF.u,cI.u,cE.u⟩
  have b5:¬((e:Int)=0):=ai;have b6:((e:Int)==0)=false:=bR.2 b5;obtain ⟨ac,ad,ae,r3,af,V,Y,ah⟩:=I.rs.blk.eight;clear I bC bc bs;go_wp2;go_end0;refine ⟨rfl,br.u,_,aN,pv',_,D,kQ,av,j,e,aa,bt.u,?_⟩;rw [U];exact ⟨dO,rfl,b4⟩
