import Derived.Test.YtlbpnlngckgcbaaGreatDoorM12
set_option linter.all false
set_option maxHeartbeats 4000000
set_option maxRecDepth 100000
namespace Go.Proofs.YtlbpnlngckgcbaaGreatDoor
open Go.RowKit Go.PlainAid Go.Proofs.Tryz
variable {aA aU:Prop} {pl:List PV} {tn:ae} {r:Rl}
abbrev AQ:=@of_decide_eq_true
abbrev nN(a0:ae)(a1:Int):Obj:=.cells #[.string a0,.int .i64 a1] 170
abbrev ke(a0:ae)(a1:ae)(a2:Int)(a3:Int):Obj:=.cells #[.string a0,.string a1,.int .i64 a2,.int .i64 a3] 172
def AR(q:aU) (h:bF aU->aA:=by
 intro zq;refine C.u.mono ?_;rintro e' w6 ⟨rfl,MS⟩;have H6:=ai (HI.u.below MS hbb YT);have B6:=ai (HB.u.trans (MS.mono YT))
 revert w6 MS H6 B6
 exact zq.1):aA:=h ⟨q⟩
def Lr(pl:List PV)(tn:ae)(x:RV)(r:Rl):Prop:=x.kd=tn/\x.nm=r.name/\x.pl=r.place/\∃f,Tr pl f x.ex r.body
def jE(pl:List PV)(tn:ae):List RV->List Rl->Prop
 | [],[]=>True
 |x::xs,r::rs=>Lr pl tn x r/\jE pl tn xs rs
 |_,_=>False
def Lr.more{x}(h:Lr pl tn x r)(t):Lr (pl++t) tn x r:=⟨h.1,h.2.1,h.2.2.1,by obtain ⟨f,A⟩:=h.2.2.2;exact ⟨f,Tr.more pl t f _ _ A⟩⟩
def jE.more{pl tn}(t):∀(xs:List RV)(rs:List Rl),jE pl tn xs rs->jE (pl++t) tn xs rs
 | [],[],_=>trivial
 |x::xs,r::rs,h=>⟨h.1.more t,jE.more t xs rs h.2⟩
 | [],_::_,h=>h.elim
 |_::_,[],h=>h.elim
def jE.snoc{pl tn y q}(k:Lr pl tn y q):∀(xs:List RV)(rs:List Rl),jE pl tn xs rs->jE pl tn (xs++[y]) (rs++[q])
 | [],[],_=>⟨k,trivial⟩
 |x::xs,r::rs,h=>⟨h.1,jE.snoc k xs rs h.2⟩
 | [],_::_,h=>h.elim
 |_::_,[],h=>h.elim
def mR(T:Nat->ae)(P:Nat->Nat)(i:Nat):eI Ty:=match bZ T (sg 123) i with
 | .error e=> .error e
 | .ok (_,j)=>match dv T P 512 [] j with
  | .error e=> .error e
  | .ok (rs,m)=> .ok (⟨T i,P i,rs⟩,m)
def kf(T P i):ly T P i=if eqs (T i) jA then mR T P (i+1) else .error (2,i):=rfl
def Qi(n:ae)(p:Nat)(r:eI (List Rl)):eI Ty:=match r with
 | .error e=> .error e
 | .ok (rs,m)=> .ok (⟨n,p,rs⟩,m)
def yQ(s x rm i a i1 e1 a1 i2 e2 a2)(h1:(i1,e1,a1)=nmS s rm i a)(h2:(i2,e2,a2)=IZ s x i1 e1 a1):
  (e2=0/\a2=a/\i2=i+2/\dl (TT s i)=true/\rm=true/\bZ (TT s) x i=.ok ((),i2))\/(e2≠0/\((rm=true->∃A,a2=PP s A/\bZ (TT s) x i=.error (e2,A))/\(dl (TT s i)=false->∃A,a2=PP s A/\bZ (TT s) x i=.error (e2,A))/\(dl (TT s i)=true->rm=false->a2=PP s i/\e2=3))):=by
 unfold nmS at h1;unfold bZ dh
 cases hn:dl (TT s i)
 ·simp only [hn,bH,aV,Prod.mk.injEq] at h1;obtain ⟨rfl,rfl,rfl⟩:=h1;simp only [IZ,Nat.reduceEqDiff,aV,Prod.mk.injEq] at h2;obtain ⟨rfl,rfl,rfl⟩:=h2;exact .inr ⟨aj,fun _=>⟨_,rfl,ar⟩,fun _=>⟨_,rfl,ar⟩,(fun h=>by cases h)⟩
 ·simp only [hn,if_true] at h1
  by_cases hl:(TT s i).size<=8
  ·cases I:rm
   ·simp only [hl,I,bH,and_false,aV,Prod.mk.injEq] at h1;obtain ⟨rfl,rfl,rfl⟩:=h1;simp only [IZ,Nat.reduceEqDiff,aV,Prod.mk.injEq] at h2;obtain ⟨rfl,rfl,rfl⟩:=h2;exact .inr ⟨aj,(fun h=>by cases h),(fun h=>by cases h),fun _ _=>⟨rfl,rfl⟩⟩
   simp only [hl,I,and_self,if_true,Prod.mk.injEq] at h1;obtain ⟨rfl,rfl,rfl⟩:=h1;have D:¬(8<(TT s i).size):=aj;simp only [IZ,if_true] at h2
   cases C:eqs (TT s (i+1)) x
   ·simp only [C,bH,aV,Prod.mk.injEq] at h2;obtain ⟨rfl,rfl,rfl⟩:=h2;exact .inr ⟨aj,fun _=>⟨_,rfl,by simp [D,C]⟩,(fun h=>by cases h),(fun _ h=>by cases h)⟩
   simp only [C,if_true,Prod.mk.injEq] at h2;obtain ⟨rfl,rfl,rfl⟩:=h2;exact .inl ⟨rfl,rfl,rfl,rfl,rfl,by simp [D,C]⟩
  have D:8<(TT s i).size:=aj;simp only [hl,false_and,aV,Prod.mk.injEq] at h1;obtain ⟨rfl,rfl,rfl⟩:=h1;simp only [IZ,Nat.reduceEqDiff,aV,Prod.mk.injEq] at h2;obtain ⟨rfl,rfl,rfl⟩:=h2;exact .inr ⟨aj,fun _=>⟨_,rfl,by simp [D]⟩,(fun h=>by cases h),fun _ _=>⟨rfl,rfl⟩⟩
def Gk(s i a i1 e1 a1 i2 e2 a2)(h1:(i1,e1,a1)=nmS s true i a)(h2:(i2,e2,a2)=IZ s (sg 123) i1 e1 a1):
  (e2=0/\a2=a/\i2=i+2/\Qi (TT s i) (PP s i) (dv (TT s) (PP s) 512 [] i2)=mR (TT s) (PP s) i)\/(e2≠0/\∃h,a2=PP s h/\mR (TT s) (PP s) i=.error (e2,h)):=by
 unfold mR
 rcases yQ s (sg 123) true i a i1 e1 a1 i2 e2 a2 h1 h2 with ⟨A,C,D,_,_,I⟩|⟨A,C,_⟩
 ·refine .inl ⟨A,C,D,?_⟩;rw [I]
  rfl
 ·obtain ⟨h,D,I⟩:=C rfl;refine .inr ⟨A,h,D,?_⟩;rw [I]
def Ls(s)(k n:Nat)(acc)(j a ac e1 R J I Q:Nat)(ah:n=acc.length)(ai:n<=6)(h0:eqs (TT s j) (sg 125)=false)(h1:(ac,e1,R)=nmS s (decide ((n:Int)<6)) j a)(h2:(J,I,Q)=IZ s (sg 58) ac e1 R):
  (I=0/\Q=a/\J=j+2/\n<6/\dv (TT s) (PP s) (k+1) acc j=(match fp (TT s) (PP s) 4 J with
   | .error e=> .error e
   | .ok (x,m)=>if eqs (TT s m) (sg 59) then dv (TT s) (PP s) k (acc++[⟨TT s j,PP s j,x⟩]) (m+1) else .error (2,m)))\/(I≠0/\∃D,Q=PP s D/\dv (TT s) (PP s) (k+1) acc j=.error (I,D)):=by
 rcases yQ s (sg 58) _ j a ac e1 R J I Q h1 h2 with ⟨U,V,Y,ad,A,C⟩|⟨U,V,Y,ad⟩
 ·have ae:n<6:=by have:=AQ A;omega
  have ab:¬(acc.length=6):=aj;refine .inl ⟨U,V,Y,ae,?_⟩;have Z:(dl (TT s j)&&acc.length==6)=false:=by simp [ab]
  rw [dv,h0];simp only [Z,bH,aV];unfold lW;rw [C];simp only
  cases fp (TT s) (PP s) 4 J with
  |error e=>rfl
  |ok y=>
   obtain ⟨x,m⟩:=y;simp only
   cases eqs (TT s m) (sg 59)<;>rfl
 ·refine .inr ⟨U,?_⟩;rw [dv,h0];simp only [bH,aV]
  by_cases ae:n<6
  ·obtain ⟨D,A,C⟩:=V aM;have ab:¬(acc.length=6):=aj;have Z:(dl (TT s j)&&acc.length==6)=false:=by simp [ab]
   refine ⟨D,A,?_⟩;simp only [Z,bH,aV];unfold lW;rw [C]
  have ag:acc.length=6:=aj
  cases af:dl (TT s j)
  ·obtain ⟨D,A,C⟩:=Y af;refine ⟨D,A,?_⟩;simp only [eB,bH,aV];unfold lW;rw [C]
  obtain ⟨A,C⟩:=ad af aM;refine ⟨j,A,?_⟩;simp [ag,C]
def via{h:Prop}{P:Nat->Nat->af->Prop}{A:Nat->Nat->af->Act}{C:Nat->Nat->af->af}{K:Act->af->Prop}(main:(∀g c w,P g c w->K (A g c w) (C g c w))->h)(key:∀g c w,P g c w->K (A g c w) (C g c w)):h:=main key
def KPost(base b:Nat)(s:ae)(tv:ag)(i a:Nat)(kl:List (ae×Nat))(rl:List RV)(pl:List PV)(w:af)(C:eI Ty)(e:Ending)(w':af):Prop:=
 e=.returned (.tuple #[])/\Below base w w'/\∃kv rv pv A h kG D j e' a',RM base w' b s tv j 0 e' a' kv rv pv A h kG D/\(match C with
  | .ok (t,m)=>e'=0/\a'=a/\m=j/\i<j/\kG.length<=j/\h.length<=j/\A=kl++[(t.name,t.place)]/\∃rn tt,h=rl++rn/\kG=pl++tt/\jE kG t.name rn t.rels
  | .error (c,jj)=>c≠0/\e'=c/\a'=PP s jj)
def KdC(s:ae)(i a:Nat)(rl:List RV)(pl:List PV)(h:eI Ty)(k n j e aa:Nat)(C:List RV)(kG:List PV):Prop:=
 (e=0/\aa=a/\i<j/\kG.length<=j/\C.length<=j/\512<=k+j/\n<=6/\∃acc rn tt,n=acc.length/\C=rl++rn/\kG=pl++tt/\jE kG (TT s i) rn acc/\Qi (TT s i) (PP s i) (dv (TT s) (PP s) k acc j)=h)\/
 (e≠0/\∃A,aa=PP s A/\h=.error (e,A))
def ExS(s:ae)(a h:Nat)(pl t:List PV)(m D C A:Nat):Prop:=match fp (TT s) (PP s) 4 h with
 | .ok (x,jx)=>D=jx/\C=0/\A=a/\h<jx/\(pl++t).length+h<=pl.length+jx/\∃f,Tr (pl++t) f m x
 | .error (c,jj)=>c≠0/\C=c/\A=PP s jj
def Vz(s i a rl pl R fu n j acc rn tt rl' kG i2 j3 e3 a3 i4 e4 a4 m t)(ac:i<j)(ai:kG.length<=j)(ak:rl'.length<=j)(ad:512<=fu+1+j)(ag:n<6)(ab:i2=j+2)(ah:n=acc.length)(Q:rl'=rl++rn)(Y:kG=pl++tt)(J:jE kG (TT s i) rn acc)(A:Qi (TT s i) (PP s i) (dv (TT s) (PP s) (fu+1) acc j)=R) (U:dv (TT s) (PP s) (fu+1) acc j=(match fp (TT s) (PP s) 4 i2 with
   | .error e=> .error e
   | .ok (x,m)=>if eqs (TT s m) (sg 59) then dv (TT s) (PP s) fu (acc++[⟨TT s j,PP s j,x⟩]) (m+1) else .error (2,m))) (hex:ExS s a i2 kG t m j3 e3 a3) (C:(i4,e4,a4)=IZ s (sg 59) j3 e3 a3):KdC s i a rl pl R fu (n+1) i4 e4 a4 (rl'++[⟨TT s i,TT s j,PP s j,m⟩]) (kG++t):=by
 unfold ExS at hex;rw [U] at A
 cases I:fp (TT s) (PP s) 4 i2 with
 |error er=>
  obtain ⟨c,Z⟩:=er;rw [I] at hex A;obtain ⟨hc,rfl,rfl⟩:=hex;simp only [IZ,hc,aV,Prod.mk.injEq] at C;obtain ⟨rfl,rfl,rfl⟩:=C;exact .inr ⟨hc,Z,rfl,by rw [<-A];rfl⟩
 |ok y=>
  obtain ⟨x,al⟩:=y;rw [I] at hex A;obtain ⟨rfl,rfl,rfl,af,ae,f,V⟩:=hex;simp only [IZ,if_true] at C;simp only at A
  cases D:eqs (TT s j3) (sg 59)
  ·simp only [D,bH,aV,Prod.mk.injEq] at C A;obtain ⟨rfl,rfl,rfl⟩:=C;exact .inr ⟨aj,_,rfl,by rw [<-A];rfl⟩
  simp only [D,if_true,Prod.mk.injEq] at C A;obtain ⟨rfl,rfl,rfl⟩:=C;refine .inl ⟨rfl,rfl,aj,aj,aM,aj,aj,acc++[⟨TT s j,PP s j,x⟩],rn++[⟨TT s i,TT s j,PP s j,m⟩],tt++t,aM,by rw [Q];simp,by rw [Y];simp,?_,A⟩;exact jE.snoc (tn:=TT s i) ⟨rfl,rfl,rfl,f,V⟩ _ _ (jE.more t _ _ J)
def Qj(base b s tv i a kv rv pv kl rl pl l w)(h:RM base w b s tv i 0 0 a kv rv pv kl rl pl l)(hbb:base<=b)(J:base<=w.heap.size)(es:pl.length<=i)(eq:kl.length<=1000)(ew:rl.length<=i):
  Calls prog 190 #[.pointer (some ⟨b,0,none⟩)] w (KPost base b s tv i a kl rl pl w (mR (TT s) (PP s) i)):=by
 obtain ⟨cl,co,rfl⟩:=ax h.kt;obtain ⟨ec,bf,bj,bk,bl⟩:=bK Tryz.infoKd;have cP:=ai bf;have cQ:=ai bj;have cR:=ai bk;have cS:=ai bl;clear bf bj bk bl;obtain ⟨ed,bf,bj,bk,bl⟩:=bK Tryz.infoRl;have dT:=ai bf;have dU:=ai bj;have dV:=ai bk;have dW:=ai bl;clear bf bj bk bl;generalize c9:mR (TT s) (PP s) i=bz;have cJ:=ai c9;have dO:=ai h;have eu:=h.rs.lt;have C:=ai (yh b s tv i 0 a _ rv pv true w h.rs);clear h c9;go_enter func190,ntmps190;go_wp2_with fail;refine C.u.mono ?_;rintro e w1 ⟨rfl,bG,dr,e1,a1,dl,dF⟩;have cE:=ai (dO.u.but bG hbb J dF);have eA:=bG.size;have bR:=ai (bG.below hbb J);have dS:=ai dl;clear bG dF dl C;unfold BO;have b5:=(az _ w1).alloc aD (mj (TT s i) (PP s i) (dw (TT s i)));have da:base<=w1.heap.size:=aP J bR.u.size;have aL:=ai (cE.u.below b5 hbb da);have TB:=ai (aE.new w1 (pA (TT s i) (PP s i) (dw (TT s i))) 259);have dN:=ai (bR.u.trans (b5.mono da));clear b5;go_wp2_with fail;have eC:=TB.u.lt;generalize ey:w1.heap.size=cx at*;generalize w1.alloc (mj (TT s i) (PP s i) (dw (TT s i)))=W at*;have d2:base<=W.heap.size:=aj;obtain ⟨Z,ab,ac,r3,ad,U,V,ae⟩:=aL.u.rs.blk.eight;obtain ⟨br,bQ,cz⟩:=TB.u.three;have Y:=aL.u.rs.blk;have cj:=Y.fz;have eg:=cm W _ U;have cp:=cm W _ br;have cq:=cm W _ bQ;have c5:(W.alloc (nN (TT s i) (PP s i))).cell? ⟨b,5,none⟩=some (.slice cl kl.length co):=(Y.alloc _).cell rfl;have cf:¬(b=W.heap.size):=by have:=Y.lt;omega
 have aO:=ai Y;have am:=ai aL.u.kt;clear Y;have aW:=ai (show ∀u∈kC (TT s i,PP s i),u.oneCell'=true from by
  intro u bh;simp only [kC,bi,dK,dP] at bh
  rcases bh with rfl|rfl<;>rfl)
 have aM:=ai (by unfold maxLen;omega:kl.length+1<=maxLen);have aR:=ai (by omega:(kl.length+1)*24<=140737488355328);have aX:=ai (show base<=(W.alloc (nN (TT s i) (PP s i))).drew.heap.size from by
  have:=((az _ W).alloc aD (nN (TT s i) (PP s i))).drew.size;omega)
 have aS:=ai (by simp:(W.alloc (nN (TT s i) (PP s i))).drew.heap.size=W.heap.size+1);rename_i K bc;apply via (K:=K) (P:=fun g5 aT w5=>(W.alloc (nN (TT s i) (PP s i))).drew.grownBy w5 (Value.slice cl kl.length co).ownBlock/\w5.ownsRow base 170 2 (.slice (some ⟨g5,0,none⟩) (kl.length+1) aT) (kl.length+1) (kl.flatMap kC++kC (TT s i,PP s i)))
 case main=>
  intro key;have b0:=ai key;clear key
  go_region_law (refine jY _ rfl (.tmp 14) (.tmp 20) 164 rfl base 170 ec _ 2 24 underlying164 cP.u cQ.u cR.u cS.u rfl au (.slice cl kl.length co) kl.length (kl.flatMap kC) gW (bO (am.u.alloc _)) ⟨W.heap.size,0,none⟩ 1 1 (kC (TT s i,PP s i)) gW rfl (bu (B:=W.heap.size) (cs:=#[.string (TT s i),.int .i64 (PP s i)]) (t:=170) (fr:=(0,0)) (aE.new W _ _).drew) aW.u au aM.u aR.u aX.u (W.heap.size+1) aS.u ?_;intro g5 aT w5 dj cd dZ en;have aY:=bO (am.u.alloc (nN (TT s i) (PP s i)));have af:=(aO.u.alloc (nN (TT s i) (PP s i))).drew;have ah:aE w5 b _ 252:=(cd.block b af.lt (own_ne aY af au)).trans af;obtain ⟨dx,dy,dz,dA,dB,dC,dD,dE⟩:=ah.eight;have zq:=ah.fz;have bs:=ai cd;have bw:=ai dj;have ef:=ah.lt;clear aY af ah cd dj dZ)
  all_goals exact b0.u g5 aT w5 ⟨bs.u,bw.u⟩
 case key=>
  rintro g5 aT w5 ⟨bs,bw⟩;obtain ⟨cu,c7,du⟩:=aL.u.kinds hbb d2 (((az _ W).alloc aD (nN (TT s i) (PP s i))).drew) bs bw;have dL:=du.blk TB.u au au;have bV:=ai (dN.u.trans c7);have aC:cx≠b:=aj;clear bs bw du c7 aW aM aR aX aS am aO c5 cp cq eg cj Z ab ac r3 ad U V ae br bQ cz aL cP cQ cR cS cE bR TB cf;refine bc _ _ ?_;clear bc K;generalize w5.setCell ⟨b,5,none⟩ (.slice (some ⟨g5,0,none⟩) (kl.length+1) aT)=cZ at*;have dc:base<=cZ.heap.size:=aP J bV.u.size;have C:=ai (lE b s tv dr 0 e1 a1 _ rv pv (sg 123) cZ cu.rs au);have cG:=ai cu;have cW:=ai dL;clear cu dL;go_wp2_with fail;refine C.u.mono ?_;rintro e eE ⟨rfl,bH,ck,b7,a2,dn,dH⟩;have cH:=ai (cG.u.but bH hbb dc dH);have cX:=ai (cW.u.but bH aC);have cA:=ai (bV.u.trans (bH.below hbb dc));have ay:=ai (show KdC s i a rl pl bz 512 0 ck b7 a2 rl pl from by
   rcases Gk s i a dr e1 a1 ck b7 a2 dS.u dn with ⟨h1,h2,bD,dY⟩|⟨h1,aG,h2,bD⟩
   ·exact .inl ⟨h1,h2,aj,aj,aj,aj,aj,[],[],[],rfl,ar,ar,trivial,by rw [dY];exact cJ.u⟩
   exact .inr ⟨h1,aG,h2,by rw [<-bD];exact cJ.u.symm⟩)
  clear bH dH dn C cG cW bV;go_wp2_with fail
  go_loopg [3] 512 (fun k ei wr=>∃(n j e aa:Nat)(aH pv':ag)(A:List RV)(kG:List PV)(an:List PX),ei=.int .i64 n/\RM base wr b s tv j 0 e aa (.slice (some ⟨g5,0,none⟩) (kl.length+1) aT) aH pv' (kl++[(TT s i,PP s i)]) A kG an/\aE wr cx (pA (TT s i) (PP s i) (dw (TT s i))) 259/\Below base w wr/\n+k<=512/\Hid (KdC s i a rl pl bz k n j e aa A kG))
  case atStart=>exact ⟨0,ck,b7,a2,rv,pv,rl,pl,l,rfl,cH.u,cX.u,cA.u,aj,ay⟩
  case round=>
   clear cH cX cA ay;obtain ⟨n,j,e,aa,aH,pv',A,kG,an,rfl,I,bE,bb,ev,bv⟩:=hrel;have YT:base<=wr.heap.size:=aP J bb.size;have HI:=ai I;have HB:=ai bb;have cN:=ai bE
   rcases ak bv with ⟨rfl,rfl,d5,ea,eb,d7,d8,acc,rn,tt,di,ch,ci,cg,R⟩|⟨d3,aG,b8,R⟩
   ·have et:=I.rs.gd.le;have ex:=I.rs.sz;obtain ⟨a8,rfl⟩:∃f,gk=f+1:=⟨gk-1,aj⟩;obtain ⟨Z,ab,ac,r3,ad,U,V,ae⟩:=I.rs.blk.eight;have cI:=ai di;have cK:=ai cg;have bZ:=ai R;clear di;have cL:=ai ch;have cO:=ai ci
    cases ba:eqs (TT s j) (sg 125)
    ·have C:=ai (de b s tv j 0 aa _ aH pv' (sg 125) wr I.rs false ba);obtain ⟨bP,rc,rfl⟩:=ax I.rt;clear I bE bb bv cg R ch ci;go_wp2_with fail;refine AR ?_;intro w6 MS H6 B6;have cU:=ai (cN.u.below MS);have bJ:base<=w6.heap.size:=aP J B6.u.size;have cB:=ai (yh b s tv j 0 aa _ _ pv' (decide ((n:Int)<6)) w6 H6.u.rs);clear MS C Z ab ac r3 ad U V ae HI HB cN;go_wp2_with fail;refine cB.u.mono ?_;rintro e' av ⟨rfl,bI,ds,c8,c3,dm,dI⟩;have aN:=ai (H6.u.but bI hbb bJ dI);have b4:=ai (cU.u.but bI aC);have aI:=ai (B6.u.trans (bI.below hbb bJ));have dd:base<=av.heap.size:=aP J aI.u.size;have cM:=ai dm;clear bI dI dm cB H6 cU B6;unfold BO;have bB:=(az _ av).alloc aD (mj (TT s j) (PP s j) (dw (TT s j)));have bY:=ai (aN.u.below bB hbb dd);have cV:=ai (b4.u.below bB);have c2:=ai (aE.new av (pA (TT s j) (PP s j) (dw (TT s j))) 259);have bW:=ai (aI.u.trans (bB.mono dd));have dq:av.heap.size≠b:=by have:=aN.u.rs.lt;omega
     have ez:cx≠av.heap.size:=by have:=b4.u.lt;omega
     have dg:base<=(av.alloc (mj (TT s j) (PP s j) (dw (TT s j)))).heap.size:=aP J bW.u.size;have cC:=ai (lE b s tv ds 0 c8 c3 _ _ pv' (sg 58) _ bY.u.rs au);clear bB aN b4 aI;go_wp2_with fail;refine cC.u.mono ?_;rintro e' cy ⟨rfl,be,aF,bC,aB,dp,dJ⟩;have Q:=ai (bY.u.but be hbb dg dJ);have aZ:=ai (cV.u.but be aC);have bA:=ai (c2.u.but be dq);have aJ:=ai (bW.u.trans (be.below hbb dg));have bL:base<=cy.heap.size:=aP J aJ.u.size;obtain ⟨Z,ab,ac,r3,ad,U,V,ae⟩:=Q.u.rs.blk.eight;have dX:=Ls s a8 n acc j aa ds c8 c3 aF bC aB cI.u d8 ba cM.u dp;clear be dJ dp cC bY cV c2 bW cM
     rcases dX with ⟨rfl,rfl,d4,d9,bM⟩|⟨cb,aG,b8,bM⟩
     ·have dR:=ai bM;have cD:=ai (sY s 4 0 rfl base b tv aF aB _ _ pv' kG an cy Q.u.rs Q.u.pt hbb bL aj);clear bM;go_wp2_with fail;refine cD.u.mono ?_;rintro e' D ⟨m,rfl,cr,Yo,l1,t,tl,fr,pt,rfl,rfl,dh,R⟩;obtain ⟨bo,a6,a3,dG,hex⟩:∃bo a6 a3,RS D b s tv bo 0 a6 a3 (.slice (some ⟨g5,0,none⟩) (kl.length+1) aT) (.slice bP A.length rc) cr/\ExS s aB aF kG t m bo a6 a3:=by
       unfold ExS
       cases bN:fp (TT s) (PP s) 4 aF with
       |error er=>
        obtain ⟨c,aG⟩:=er;rw [bN] at R;obtain ⟨hc,j',ep,cw,_⟩:=R;exact ⟨j',c,PP s aG,cw,hc,rfl,rfl⟩
       |ok y=>
        obtain ⟨x,ee⟩:=y;rw [bN] at R;obtain ⟨cw,h1,h2,bD⟩:=R;exact ⟨ee,0,aB,cw,rfl,rfl,rfl,h1,h2,bD⟩
      have aw:=ai (Q.u.fr fr pt dG (fun x bN=>(aQ.1 bN).elim (Q.u.fh x) (fun h=>(dh x h).mono bL)));have b2:=ai (fr.blk aZ.u aC (gB Q.u.pt.row aZ.u au));have c1:=ai (fr.blk bA.u dq (gB Q.u.pt.row bA.u au));have bS:=ai (aJ.u.trans fr.below);have dQ:=ai hex;clear fr pt dG dh R hex cD Q aZ bA aJ Z ab ac r3 ad U V ae;go_wp2_with fail;generalize eB:av.heap.size=eF at*;have d1:base<=D.heap.size:=aP J bS.u.size;have eD:=aw.u.rs.lt;obtain ⟨Z,ab,ac,r3,ad,U,V,ae⟩:=aw.u.rs.blk.eight;obtain ⟨br,bQ,cz⟩:=b2.u.three;obtain ⟨dM,ek,el⟩:=c1.u.three;have Y:=aw.u.rs.blk;have cj:=Y.fz;have eh:=cm D _ V;have cp:=cm D _ br;have cq:=cm D _ dM;have c6:(D.alloc (ke (TT s i) (TT s j) (PP s j) m)).cell? ⟨b,6,none⟩=some (.slice bP A.length rc):=(Y.alloc _).cell rfl;have cf:¬(b=D.heap.size):=aj;have aO:=ai Y;have am:=ai aw.u.rt;clear Y;have aW:=ai (show ∀u∈rC ⟨TT s i,TT s j,PP s j,m⟩,u.oneCell'=true from by
       intro u bh;simp only [rC,bi,dK,dP] at bh
       rcases bh with rfl|rfl|rfl|rfl<;>rfl)
      have aM:=ai (by unfold maxLen;omega:A.length+1<=maxLen);have aR:=ai (by omega:(A.length+1)*48<=140737488355328);have aX:=ai (show base<=(D.alloc (ke (TT s i) (TT s j) (PP s j) m)).drew.heap.size from by
       have:=((az _ D).alloc aD (ke (TT s i) (TT s j) (PP s j) m)).drew.size;omega)
      have aS:=ai (by simp:(D.alloc (ke (TT s i) (TT s j) (PP s j) m)).drew.heap.size=D.heap.size+1);rename_i K bc;apply via (K:=K) (P:=fun a9 a5 ap=>(D.alloc (ke (TT s i) (TT s j) (PP s j) m)).drew.grownBy ap (Value.slice bP A.length rc).ownBlock/\ap.ownsRow base 172 4 (.slice (some ⟨a9,0,none⟩) (A.length+1) a5) (A.length+1) (A.flatMap rC++rC ⟨TT s i,TT s j,PP s j,m⟩))
      case main=>
       intro key;have b0:=ai key;clear key
       go_region_law (refine jY _ rfl (.tmp 60) (.tmp 69) 165 rfl base 172 ed _ 4 48 underlying165 dT.u dU.u dV.u dW.u rfl au (.slice bP A.length rc) A.length (A.flatMap rC) gW (bO (am.u.alloc _)) ⟨D.heap.size,0,none⟩ 1 1 (rC ⟨TT s i,TT s j,PP s j,m⟩) gW rfl (bu (B:=D.heap.size) (cs:=#[.string (TT s i),.string (TT s j),.int .i64 (PP s j),.int .i64 m]) (t:=172) (fr:=(0,0)) (aE.new D _ _).drew) aW.u au aM.u aR.u aX.u (D.heap.size+1) aS.u ?_;intro a9 a5 ap dk ce d0 eo;have aY:=bO (am.u.alloc (ke (TT s i) (TT s j) (PP s j) m));have af:=(aO.u.alloc (ke (TT s i) (TT s j) (PP s j) m)).drew;have ah:aE ap b _ 252:=(ce.block b af.lt (own_ne aY af au)).trans af;obtain ⟨dx,dy,dz,dA,dB,dC,dD,dE⟩:=ah.eight;have zq:=ah.fz;have bt:=ai ce;have bx:=ai dk;have ef:=ah.lt;clear aY af ah ce dk d0)
       all_goals exact b0.u a9 a5 ap ⟨bt.u,bx.u⟩
      case key=>
       rintro a9 a5 ap ⟨bt,bx⟩;obtain ⟨ct,c4,dt⟩:=aw.u.rels hbb d1 (((az _ D).alloc aD (ke (TT s i) (TT s j) (PP s j) m)).drew) bt bx;have cT:=ai (dt.blk b2.u au au);have bT:=ai (bS.u.trans c4);clear bt bx dt c4 aW aM aR aX aS am aO c6 cp cq eh cj Z ab ac r3 ad U V ae br bQ cz dM ek el aw b2 c1 bS cf;refine bc _ _ ?_;clear bc K;generalize ap.setCell ⟨b,6,none⟩ (.slice (some ⟨a9,0,none⟩) (A.length+1) a5)=cY at*;have db:base<=cY.heap.size:=aP J bT.u.size;have aK:=ai (lE b s tv bo 0 a6 a3 _ _ cr (sg 59) cY ct.rs au);have cF:=ai ct;clear ct;go_wp2_with fail;refine aK.u.mono ?_;rintro e' ej ⟨rfl,al,bn,a7,a4,bg,bp⟩;have bX:=ai (cF.u.but al hbb db bp);have b3:=ai (cT.u.but al aC);have bU:=ai (bT.u.trans (al.below hbb db));have ay:=ai (Vz s i aB rl pl bz a8 n j acc rn tt A kG aF bo a6 a3 bn a7 a4 m t d5 ea eb d7 d9 d4 cI.u cL.u cO.u cK.u bZ.u dR.u dQ.u bg);clear al bp bg aK cF cT bT;go_wp2
       go_roundg a8
       case measure=>omega
       case rel=>exact ⟨n+1,bn,a7,a4,_,cr,A++[⟨TT s i,TT s j,PP s j,m⟩],kG++t,an++tl,by go_num,by simpa using bX.u,b3.u,bU.u,aj,ay⟩
     have b9:¬((bC:Int)=0):=aj;have em:((bC:Int)==0)=false:=b6.2 b9;have aK:=ai (lE b s tv aF 0 bC aB _ _ pv' (sg 59) cy Q.u.rs au);go_wp2_with fail;refine aK.u.mono ?_;rintro e' ej ⟨rfl,al,bn,a7,a4,bg,bp⟩;simp only [IZ,cb,aV,Prod.mk.injEq] at bg;obtain ⟨rfl,rfl,rfl⟩:=bg;have bX:=ai (Q.u.but al hbb bL bp);have b3:=ai (aZ.u.but al aC);have bU:=ai (aJ.u.trans (al.below hbb bL));have ay:=ai (.inr ⟨cb,aG,b8,by rw [<-bZ.u,bM];rfl⟩:KdC s i aa rl pl bz a8 (n+1) bn a7 a4 A kG);clear al bp aK Q aZ bA aJ Z ab ac r3 ad U V ae;go_wp2
     go_roundg a8
     case measure=>omega
     case rel=>exact ⟨n+1,bn,a7,a4,_,pv',A,kG,an,by go_num,bX.u,b3.u,bU.u,aj,ay⟩
    have C:=ai (de b s tv j 0 aa _ aH pv' (sg 125) wr I.rs true ba);have d6:=I.rs.gd.succ (df ba au);clear I bE bb bv cg R ch ci;go_wp2_with fail;refine AR ?_;intro w6 MS H6 B6;obtain ⟨dx,dy,dz,dA,dB,dC,dD,dE⟩:=H6.u.rs.blk.eight;have zq:=H6.u.rs.blk.fz;have bJ:base<=w6.heap.size:=aP J B6.u.size;have aN:=ai (H6.u.but ((But.refl b w6).setCell 1 (.int .i64 ((j:Int)+1))) hbb bJ (H6.u.rs.setI (j+1) d6));have aI:=ai (B6.u.setCell (p:=⟨b,1,none⟩) hbb (.int .i64 ((j:Int)+1)));clear MS C Z ab ac r3 ad U V ae;go_wp2;refine bq (results_none rfl _ _ _) rfl ⟨rfl,aI.u,_,aH,pv',_,A,kG,an,j+1,0,aa,aN.u,?_⟩;rw [<-bZ.u,dv,ba];exact ⟨rfl,rfl,rfl,aj,aj,aj,rfl,rn,tt,cL.u,cO.u,cK.u⟩
   have b9:¬((e:Int)=0):=aj;have cb:((e:Int)==0)=false:=b6.2 b9;obtain ⟨Z,ab,ac,r3,ad,U,V,ae⟩:=I.rs.blk.eight;clear I bE bb bv;go_wp2;go_end0;refine ⟨rfl,HB.u,_,aH,pv',_,A,kG,an,j,e,aa,HI.u,?_⟩;rw [R];exact ⟨d3,rfl,b8⟩
