import Derived.Test.YtlbpnlngckgcbaaGreatDoorM26
import Derived.Test.YtlbpnlngckgcbaaGreatDoorM24
import Derived.Test.YtlbpnlngckgcbaaGreatDoorM25
import Derived.Test.YtlbpnlngckgcbaaGreatDoorM27
set_option linter.all false
set_option maxHeartbeats 4000000
set_option maxRecDepth 100000
namespace Go.Proofs.YtlbpnlngckgcbaaGreatDoor
open Go.RowKit Go.PlainAid Go.Proofs.Tryz
def UJ(rl:List RV)(h:Nat->List Gr)(ss:List ae)(s:ae):Nat×List ae:=if dM s=false then (2,ss) else if bh (b7 s).1.kind (b7 s).1.rel rl 0<0 then (5,ss) else if (h (bh (b7 s).1.kind (b7 s).1.rel rl 0).toNat).any (jo (b7 s).1)=false then (7,ss) else if 0<=kz ss s then (4,ss) else if ss.length=24 then (8,ss) else (0,ss++[s])
variable {b g5 be:Nat} {mp:ag} {ss:List ae} {s:ae} {w W w5:af} {o:Obj}
def RO{ta tc}(H:DU w b mp (.slice ta ss.length tc) ss)(hB:am w W)(D:ss.length<1000)(C:(W.alloc o).drew.grownBy w5 (Value.slice ta ss.length tc).ownBlock)(O5:w5.ownsRow 0 264 7 (.slice (some ⟨g5,0,none⟩) (ss.length+1) be) (ss.length+1) (ss.flatMap Kj++Kj s))(A5:(Value.slice ta ss.length tc).ownBlock=some g5\/g5=W.heap.size+1)(K5:aL w5 b #[mp,.slice ta ss.length tc] 262):
  i6 b mp (.slice ta ss.length tc) w (0,ss++[s]) (.returned (.int .i64 0)) (w5.setCell ⟨b,1,none⟩ (.slice (some ⟨g5,0,none⟩) (ss.length+1) be)):=by
 have VK:∀k,(Value.slice ta ss.length tc).ownBlock=some k->Iy b (.slice ta ss.length tc) k:=fun k hk=>by
  exact XN
 refine ⟨_,rfl,⟨K5.set 1 _,?_,?_,by show (ss++[s]).length<=1000;simp;omega⟩,((bK.of_below ((hB.alloc hB.size o).drew)).trans (dE C VK)).set (.inl rfl) _,?_⟩
 ·show World.ownsRow _ 0 264 7 _ (ss++[s]).length ((ss++[s]).flatMap Kj)
  have:=bU O5 K5 ax 1 (.slice (some ⟨g5,0,none⟩) (ss.length+1) be);exact Qd
 ·exact XL
 ·exact XK
def IA(b bm s w kv rv pv tv kl rl pl l ss dP)(h:DU w b (.pointer (some (aC bm 5))) tv ss)(ag:DM w bm kv rv pv kl rl pl l)(ae:nY rl pl dP)(hs:s.size<=maxLen)(bk:ss.length<1000):
  Calls prog 84 #[bu b,an s] w (i6 b (.pointer (some (aC bm 5))) tv w (UJ rl dP ss s)):=by
 have C1:=xd s w hs;rw [P9] at C1;unfold Tu.cells at C1;have H:=h;have aK:=fun w' (k:am w w')=>zO b s w' _ tv ss (h.below k)
 have bl:=h.blk.lt;have bb:=aj (show Kj s=[an (b7 s).1.kind,an (b7 s).1.id,an (b7 s).1.rel,an (b7 s).1.sub,an (b7 s).1.who,an (b7 s).1.of,an s] from rfl);unfold UJ;generalize (b7 s).1=T at*;obtain ⟨r,A⟩:∃r,r=(if dM s=false then (2,ss) else if bh T.kind T.rel rl 0<0 then (5,ss) else if (dP (bh T.kind T.rel rl 0).toNat).any (jo T)=false then (7,ss) else if 0<=kz ss s then (4,ss) else if ss.length=24 then (8,ss) else (0,ss++[s])):=⟨_,rfl⟩;rw [<-A]
 cases ho:dM s
 ·rw [ho] at C1 A;rw [if_pos rfl] at A;subst A;clear h hs ho ag ae;go_enter func84,ntmps84;go_wp2_with fail;refine xe ?_;intro w1 hb1 B1;clear hb1 C1;go_wp2;go_ret;exact i6.same H B1 2
 ·rw [ho] at C1 A;rw [if_neg ar] at A;have Y:=aj A;have aJ:=fun w' (k:am w w')=>eh bm kv rv pv kl rl pl l T.kind T.rel w' (ag.below k)
  have al:=fun (q:Nat) (aF:bh T.kind T.rel rl 0=(q:Int)) (ah:q<rl.length) w' (k:am w w')=>MK b bm s T w' kv rv pv tv kl rl pl l ss (h.below k) (ag.below k) q (dP q) aF (ae q ah).1 (ae q ah).2
  have au:=dc T.kind T.rel rl 0;obtain ⟨ta,tc,rfl⟩:=aw h.row;clear h hs ho ag ae A;go_enter func84,ntmps84;go_wp2_with fail;refine xe ?_;intro w1 hb1 B1;have aN:=(H.below B1).blk;have ad:=aL.new w1 #[an T.kind,an T.id,an T.rel,an T.sub,an T.who,an T.of,an s] 264;have bp:¬(w1.heap.size=b):=by have:=hb1.size;omega
  have br:¬(b=w1.heap.size):=by have:=hb1.size;omega
  clear hb1 C1;go_wp2_with fail;have l1:=B1.size;generalize (w1.alloc (oa T.kind T.id T.rel T.sub T.who T.of s))=W at*;obtain ⟨aG,aH⟩:=gh aN;have aT:W.cell? (aP w1.heap.size)=some (an T.kind):=ad.cell rfl;have aU:W.cell? (aC w1.heap.size 2)=some (an T.rel):=ad.cell rfl;have ap:=aJ W.drew B1.drew;obtain ⟨n,hn⟩:∃n,n=bh T.kind T.rel rl 0:=⟨_,rfl⟩;rw [<-hn] at ap au Y al;clear aJ hn
  go_region_held3 (fun w'=>w'.cell? (aP b)=some (.pointer (some (aC bm 5)))/\w'.cell? (aP w1.heap.size)=some (an T.kind)/\w'.cell? (aC w1.heap.size 2)=some (an T.rel)) (go_keep)
   ((go_at_call 132;refine ap.mono ?_;rintro e I ⟨rfl,aQ⟩;have Q:=(show am W I from (az _ W).drew.trans aQ);have d0:=ak aG Q;have d1:=ak aT Q;have d2:=ak aU Q;clear aQ))
  have U:=B1.trans (Q.mono l1);have D:=ad.below Q;have l2:=U.size;clear d0 d1 d2 aG aH aT aU ap Q ad aN B1
  by_cases hn:n<0
  ·have A:=aE Y;rw [if_pos hn] at A;subst A;clear Y;go_wp2;go_ret;exact i6.same H U 5
  have A:=aE Y;rw [if_neg hn] at A;obtain ⟨q,aF,ah⟩:∃q:Nat,n=q/\q<rl.length:=by
   rcases aE au with h|⟨j,h,_,h2⟩
   ·omega
   exact ⟨j,h,ai⟩
  subst aF;rw [kk] at A;have R:=aj A;have E:=al q rfl ah I U;obtain ⟨aI,aV,aW,aX,aY,aZ,a7⟩:I.cell? (aP w1.heap.size)=some (an T.kind)/\I.cell? (aC w1.heap.size 1)=some (an T.id)/\I.cell? (aC w1.heap.size 2)=some (an T.rel)/\I.cell? (aC w1.heap.size 3)=some (an T.sub)/\I.cell? (aC w1.heap.size 4)=some (an T.who)/\I.cell? (aC w1.heap.size 5)=some (an T.of)/\I.cell? (aC w1.heap.size 6)=some (an s):=⟨D.cell rfl,D.cell rfl,D.cell rfl,D.cell rfl,D.cell rfl,D.cell rfl,D.cell rfl⟩;generalize (dP q).any (jo T)=bi at*;clear A Y au al;go_wp2_with fail;refine E.mono ?_;rintro e bj ⟨rfl,ax⟩;have ac:=U.trans (ax.mono l2);have aM:=D.below ax;have F:=aK bj ac;have bg:=ac.size;clear ax E aK U D aI aV aW aX aY aZ a7;generalize kz ss s=m at*;go_wp2_with fail;refine F.mono ?_;rintro e C ⟨rfl,ay⟩;have V:=ac.trans (ay.mono bg);have J:=aM.below ay;have av:=H.below V;obtain ⟨aG,aH⟩:=gh av.blk;clear ay F ac aM
  cases bi
  ·have A:=R.u;rw [if_pos rfl] at A;subst A;clear R;go_wp2;go_ret;exact i6.same H V 7
  have A:=R.u;rw [if_neg ar] at A
  by_cases aB:0<=m
  ·rw [if_pos aB] at A;subst A;clear R;go_wp2;go_ret;exact i6.same H V 4
  rw [if_neg aB] at A;have bo:decide (0<=m)=false:=l6 aB
  by_cases ab:ss.length=24
  ·rw [if_pos ab] at A;subst A;have bf:((ss.length:Int)==24)=true:=by rw [ab];rfl
   clear R ab;go_wp2;go_ret;exact i6.same H V 8
  rw [if_neg ab] at A;subst A;have bf:((ss.length:Int)==24)=false:=by rw [bR];omega
  clear R ab;have aI:C.cell? (aP w1.heap.size)=some (an T.kind):=J.cell rfl;have aV:C.cell? (aC w1.heap.size 1)=some (an T.id):=J.cell rfl;have aW:C.cell? (aC w1.heap.size 2)=some (an T.rel):=J.cell rfl;have aX:C.cell? (aC w1.heap.size 3)=some (an T.sub):=J.cell rfl;have aY:C.cell? (aC w1.heap.size 4)=some (an T.who):=J.cell rfl;have aZ:C.cell? (aC w1.heap.size 5)=some (an T.of):=J.cell rfl;have a7:C.cell? (aC w1.heap.size 6)=some (an s):=J.cell rfl;go_wp2_with fail;have af:=av.blk;have bt:=af.fz;have bw:=cd C _ aH;have bx:=cd C _ aI;have c7:(C.alloc (oa T.kind T.id T.rel T.sub T.who T.of s)).cell? (aC b 1)=some (aA ta ss.length tc):=(af.alloc _).cell rfl;have bs:¬(b=C.heap.size):=by have:=af.lt;omega
  go_region_law (refine Bc rfl underlying260 Tryz.infoDT 0 (cP (av.row.alloc _)) ((af.alloc (oa T.kind T.id T.rel T.sub T.who T.of s)).drew) C.heap.size 1 [an T.kind,an T.id,an T.rel,an T.sub,an T.who,an T.of,an s] (C.heap.size+1) ?_;intro g5 be w5 aS aR aO bn Z;obtain ⟨bz,bA⟩:=gh Z;have zq:=Z.fz;have ba:=Z;have a9:=aR;have bc:=aS;have a8:=aO;have bv:=Z.lt;clear Z aR aS aO)
  all_goals
   go_wp2;go_ret;exact RO H V ai a9 (by rw [bb];exact bc) a8 ba
def EZ(h:dM s=true):((b7 s).1.who=dL/\(b7 s).1.of.size=0)\/(bC (b7 s).1.who=true/\(b7 s).1.of.size=0)\/(bC (b7 s).1.who=true/\bC (b7 s).1.of=true):=by
 unfold dM at h;simp only [bO] at h;obtain ⟨⟨_,h2⟩,_⟩:=h;have R:(b7 s).1.who=(nA (aG (aG s 64).2.1 35).1 (aG (aG s 64).2.1 35).2.2).2.1:=rfl;have tzo:(b7 s).1.of=(aG (aG s 64).2.1 35).2.1:=rfl;rw [R,tzo];generalize (aG s 64).2.1=r at*;unfold kq at h2;unfold nA;rw [fY]
 cases C:(aG r 35).2.2
 ·rw [C] at h2;simp only [bJ,aZ,lg,bO] at h2;obtain ⟨I,U⟩:=fX C;rw [I] at h2;rw [I,U];simp only [nP,Bool.and_true]
  rcases h2 with h2|⟨h2,A⟩
  ·have D:=h2;unfold bT at h2;simp only [bO] at h2;rw [D];exact .inr (.inl ⟨h2.2,rfl⟩)
  have Q:=Kh h2;have D:bT r=false:=by unfold bT;rw [Q];simp [show bC dL=false by decide]
  rw [D];exact .inl ⟨rfl,rfl⟩
 rw [C] at h2;simp only [if_true,bO] at h2;obtain ⟨A,J⟩:=h2;unfold bT at A;simp only [bO] at A;simp only [mA,pB,bJ,aZ];exact .inr (.inr ⟨A.2,J⟩)
def KB(h:s.size=0):s=em:=by
 have e:bB s=[]:=iL Do;rw [<-cW s,e]
 rfl
def ob{a c}(h:a≠c):eqs a c=false:=by
 rw [A3];exact fun e=>h ((bz _ _).1 e)
def E0(a):eqs a a=true:=(bz _ _).2 rfl
def V7{T}(Z:(T.who=dL/\T.of.size=0)\/(bC T.who=true/\T.of.size=0)\/(bC T.who=true/\bC T.of=true)){g}(h1:iG g)(h2:yL g):gE g T=jo T g:=by
 have ad:(jR:ae)=dL:=rfl;have U:∀x:ae,bC x=true->x≠dL:=fun x C e=>by rw [e] at C;exact absurd C ax
 have ab:∀x:ae,dC x=true->x≠dL:=fun x C e=>by rw [e] at C;exact absurd C ax
 have ac:∀x:ae,dC x=true->x≠em:=fun x C e=>by rw [e] at C;exact absurd C ax
 have mo:g.reach=1->bH g=dL:=fun e=>by unfold bH;rw [if_pos e];rfl
 have I:g.reach≠1->bH g=g.rel:=fun e=>by unfold bH;rw [if_neg e]
 unfold gE jo;rw [ad]
 cases eqs g.ty T.sub
 ·rfl
 rw [fT,fT]
 rcases Z with ⟨D,ho⟩|⟨D,ho⟩|⟨D,ho⟩
 ·have J:ir T.who T.of=1:=by unfold ir;rw [if_pos ho,D,E0,if_pos rfl]
  have hv:(if eqs T.who dL=true then dL else T.of)=dL:=by rw [D,E0,if_pos rfl]
  rw [J,hv,KB ho]
  rcases h1 with ⟨Q,e⟩|A|⟨R,hn⟩
  ·rw [I ai,Q,e];decide
  ·rw [mo A,A,h2 A];decide
  rw [I ai,R,ob (ab _ hn)];simp
 ·have J:ir T.who T.of=0:=by unfold ir;rw [if_pos ho,ob (U _ D)];rfl
  have hv:(if eqs T.who dL=true then dL else T.of)=T.of:=by rw [ob (U _ D)];rfl
  rw [J,hv,KB ho]
  rcases h1 with ⟨Q,e⟩|A|⟨R,hn⟩
  ·rw [I ai,Q,e];decide
  ·rw [mo A,A,h2 A];decide
  rw [I ai,R,ob (ac _ hn)];simp
 have Y:=dl ho;have J:ir T.who T.of=2:=by unfold ir;rw [if_neg ai]
 have hv:(if eqs T.who dL=true then dL else T.of)=T.of:=by rw [ob (U _ D)];rfl
 have V:em≠T.of:=fun e=>by rw [<-e] at Y;exact absurd Y.1 ax
 rw [J,hv]
 rcases h1 with ⟨Q,e⟩|A|⟨R,hn⟩
 ·rw [I ai,Q,e,ob V];simp
 ·rw [mo A,A,h2 A,ob V,ob (fun e=>U _ ho e.symm)];simp
 rw [I ai,R];simp
def RZ{l:List Gr}{f g:Gr->Bool}(h:∀x∈l,f x=g x):l.any f=l.any g:=by
 induction l with
 |nil=>rfl
 |cons a l ih=>rw [kj,kj,h a ar,ih (fun x hx=>h x zb)]
structure Mod(ts:List Ty)(pl:List PV)(rl:List RV)(dP:Nat->List Gr):Prop where
 d:ew ts
 b:db pl rl (bx ts)
 g:∀(j:Nat)(k:ae)(r:Rl),(bx ts)[j]? =some (k,r)->dP j=bS r.body
 ok:∀t∈ts,∀r∈t.rels,∀x∈bS r.body,iG x/\yL x
variable {ts:List Ty} {pl:List PV} {rl:List RV} {gs:List Tu}
def xi{dP}(C:Mod ts pl rl dP)(h:sW gs ss)(s):(VL ts gs s).1=(UJ rl dP ss s).1/\sW (VL ts gs s).2 (UJ rl dP ss s).2:=by
 unfold VL UJ
 by_cases h1:dM s=false
 ·rw [if_pos h1,if_pos h1];exact ⟨rfl,h⟩
 have ho:dM s=true:=by simpa using h1
 rw [if_neg h1,if_neg h1,EY h ho];have ab:=EZ ho;have ad:gs.length=ss.length:=by rw [h.eq,bN]
 have ac:sW (gs++[(b7 s).1]) (ss++[s]):=⟨by rw [h.eq,cK];rfl,fun y A=>by
  rcases aW.1 A with A|A
  ·exact h.ok y A
  rw [aX] at A;rw [A];exact ho⟩
 generalize (b7 s).1=T at*
 rcases cR C.d C.b T.kind T.rel with ⟨e,ae⟩|⟨j,t,r,e,J,Q,Z⟩
 ·have V:mY ts T=5:=by
   unfold mY
   split
   ·rfl
   rename_i t I;rw [ae t I]
  rw [V,e,if_pos ai,if_pos ai];exact ⟨rfl,h⟩
 rw [e,kk,if_neg (show ¬((j:Int)<0) by omega),C.g j _ r Z];have R:=(cF Q).1;have I:=(cw J).1;have Y:(bS r.body).any (fun g=>gE g T)=(bS r.body).any (jo T):=RZ (fun x U=>V7 ab (C.ok t I r R x U).1 (C.ok t I r R x U).2);have em:mY ts T=if (bS r.body).any (jo T) then 0 else 7:=by
  unfold mY;rw [J];simp only [Q];rw [Y]
 rw [em]
 cases hv:(bS r.body).any (jo T)
 ·rw [if_pos rfl,if_pos ar];exact ⟨rfl,h⟩
 simp only [if_true,ne_eq,not_true_eq_false,aZ,Bool.true_eq_false]
 by_cases hi:0<=kz ss s
 ·rw [if_pos hi,if_pos hi];exact ⟨rfl,h⟩
 rw [if_neg hi,if_neg hi,ad]
 by_cases D:ss.length=24
 ·rw [if_pos D,if_pos D];exact ⟨rfl,h⟩
 rw [if_neg D,if_neg D];exact ⟨rfl,ac⟩
def XM(ts:List Ty)(I:Nat->Prop)(bm:Nat)(w:af):Prop:=∃(kv rv pv:ag) (kl:List (ae×Nat)) (rl:List RV) (pl:List PV) (l:List PX) (h:Nat->List Gr),Y3 w bm kv rv pv kl rl pl l/\Mod ts pl rl h/\nY rl pl h/\∀x∈l,∀k,x.2.2.1.ownBlock=some k->I k
def KX(I:Nat->Prop)(w w':af):Prop:=∀(g:Nat)(cs:Array ag)(T:TypeId)(f:Nat×Nat),w.heap[g]? =some (Obj.cells cs T f)->RT T->(T=3->I g)->w'.heap[g]? =w.heap[g]?
variable {F j:Nat} {r:Rl}
def Sc(hF:cS pl F rl (bx ts)){k}(A:(bx ts)[j]? =some (k,r)):eJ rl pl (aJ pl F) j=bS r.body:=by
 obtain ⟨x,hx,_,_,_,htr⟩:=cS.get rl _ j _ hF A;exact Is
def parse_ok(A:dy s=.ok ts)(w:af):Calls prog 80 #[an s] w fun e w'=>∃bm,e=bi (.tuple #[.pointer (some (aC bm 5)),au 0,au 0])/\am w w'/\XM ts (fun k=>w.heap.size<=k) bm w':=by
 unfold dy at A
 split at A
 ·simp at A
 rename_i hs
 split at A
 ·simp at A
 rename_i Q m C
 split at A
 ·simp at A
 rename_i hc;simp only [dY] at A;subst A;refine (jp s w ai).mono fun e w' h=> ?_
 have h2:=h.2;rw [C] at h2;simp only [hc] at h2;obtain ⟨b,kv,rv,pv,kl,rl,pl,l,e1,U,I,Y,R,V⟩:=h2;obtain ⟨F,hF⟩:=db.fuel rl _ I.2;have ad:=sized C Y ai;have ac:Df [] Q=none:=by
  unfold eD at hc
  split at hc
  ·simp at hc
  assumption
 exact ⟨b,e1,h.1,kv,rv,pv,kl,rl,pl,l,eJ rl pl (aJ pl F),⟨U,R⟩,⟨(lO Q [] ac).2,I.2,fun j k r Z=>Sc hF Z,fun t J r A x D=>⟨Ky (sT C) t J r A x D,RD C t J r A x D⟩⟩,Ce hF ad,fun x D k ab=>V x D k (.inr (.inl ab))⟩
variable {p c:Nat}
def MP(h:eD ts=some (p,c)):c≠0:=by
 unfold eD at h
 split at h
 ·simp at h;omega
 split at h
 ·simp at h;omega
 split at h
 ·simp at h;omega
 simp at h
def oN{o}(A:dy s=.error (o,c))(w):c≠0/\∃p:Nat,Calls prog 80 #[an s] w fun e w'=>e=bi (.tuple #[.pointer none,au c,au p])/\am w w':=by
 unfold dy at A
 split at A
 ·rename_i hs;simp only [Except.error.injEq,gY] at A;obtain ⟨_,rfl⟩:=A;exact ⟨ai,0,wS s w hs⟩
 rename_i hs;have C:=jp s w ai
 split at A
 ·rename_i c0 j D;simp only [Except.error.injEq,gY] at A;obtain ⟨_,rfl⟩:=A;obtain ⟨e,w',fr,J,_⟩:=C [];have I:=J.2;rw [D] at I;refine ⟨I.1,PP s j,C.mono fun e w' h=> ?_⟩;have h2:=h.2;rw [D] at h2;exact ⟨h2.2,h.1⟩
 rename_i ts m D
 split at A
 ·rename_i p c0 hc;simp only [Except.error.injEq,gY] at A;obtain ⟨_,rfl⟩:=A;refine ⟨MP hc,p,C.mono fun e w' h=> ?_⟩;have h2:=h.2;rw [D] at h2;simp only [hc] at h2;exact ⟨h2,h.1⟩
 simp at A
def SrcM(ts:List Ty)(pl:List PV)(kl:List (ae×Nat))(rl:List RV):Prop:=∃s m,s.size<=500/\dy s=.ok ts/\dJ (TT s) (PP s)=.ok (ts,m)/\Gd s m/\uv pl kl rl ts
def XS(ts:List Ty)(I:Nat->Prop)(bm:Nat)(w:af):Prop:=∃(kv rv pv:ag) (kl:List (ae×Nat)) (rl:List RV) (pl:List PV) (l:List PX) (h:Nat->List Gr),Y3 w bm kv rv pv kl rl pl l/\Mod ts pl rl h/\(nY rl pl h/\SrcM ts pl kl rl)/\∀x∈l,∀k,x.2.2.1.ownBlock=some k->I k
variable {bm:Nat} {w':af}
def XS.kx{I}(h:XS ts I bm w)(k:KX I w w'):XS ts I bm w':=by
 obtain ⟨kv,rv,pv,kl,rl,pl,l,Y,U,h2,Z,Q⟩:=h;have C:∀{base:Nat} {e:TypeId} {size:Nat} {v:ag} {n:Nat} {xs:List ag},w.ownsRow base e size v n xs->RT e->e≠3->w'.ownsRow base e size v n xs:=fun h ab hn=>ay h (fun g cs f _ D=>k g cs _ f D ab (fun e=>absurd e hn))
 obtain ⟨cs,R⟩:=U.blk;have e:=k bm cs _ _ R (.inl rfl) (fun h=>absurd h ax);have hc:∀o v,w.cell? (aC bm o)=some v->w'.cell? (aC bm o)=some v:=fun o v hv=>(jA (w:=w) e).trans hv
 have A:=U.dm;refine ⟨kv,rv,pv,kl,rl,pl,l,Y,⟨⟨hc _ _ A.c5,hc _ _ A.c6,hc _ _ A.c7,C A.kt (.inr (.inl rfl)) ax,C A.rt (.inr (.inr (.inl rfl))) ax,⟨A.pt.fst,C A.pt.row (.inr (.inr (.inr (.inl rfl)))) ax,fun x V=> ?_⟩,A.kn,A.rn,A.pn⟩,cs,e.trans R⟩,h2,Z,Q⟩;have J:=A.pt.rep x V;exact ⟨C J.g (.inr (.inr (.inr (.inr (.inl rfl))))) ax,cH J.p (fun g cs f ac D=>k g cs _ f D (.inr (.inr (.inr (.inr (.inr (.inl rfl)))))) (fun _=>Q x V g ac)),C J.s (.inr (.inr (.inr (.inr (.inr (.inr rfl)))))) ax⟩
def XS.kd{I}(h:XS ts I bm w)(k:KD w w'):XS ts I bm w':=h.kx (fun g cs T f A C _=>k g cs T f A C)
def Af(A:dy s=.ok ts)(w):Calls prog 80 #[an s] w fun e w'=>∃bm,e=bi (.tuple #[.pointer (some (aC bm 5)),au 0,au 0])/\am w w'/\XS ts (fun k=>w.heap.size<=k) bm w':=by
 have ac:=A;unfold dy at A
 split at A
 ·simp at A
 rename_i hs
 split at A
 ·simp at A
 rename_i R m C
 split at A
 ·simp at A
 rename_i hc;simp only [dY] at A;subst A;refine (jp s w ai).mono fun e w' h=> ?_
 have h2:=h.2;rw [C] at h2;simp only [hc] at h2;obtain ⟨b,kv,rv,pv,kl,rl,pl,l,e1,V,I,J,U,Y⟩:=h2;obtain ⟨F,hF⟩:=db.fuel rl _ I.2;have ae:=sized C J ai;have ad:Df [] R=none:=by
  unfold eD at hc
  split at hc
  ·simp at hc
  assumption
 exact ⟨b,e1,h.1,kv,rv,pv,kl,rl,pl,l,eJ rl pl (aJ pl F),⟨V,U⟩,⟨(lO R [] ad).2,I.2,fun j k r Z=>Sc hF Z,fun t Q r A x D=>⟨Ky (sT C) t Q r A x D,RD C t Q r A x D⟩⟩,⟨Ce hF ae,s,m,ai,ac,C,J,I⟩,fun x D k ab=>Y x D k (.inr (.inl ab))⟩
def tZ(ts:List Ty)(gs:List Tu):Prop:=∀t∈gs,mY ts t=0
def Wa(h:tZ ts gs)(s):tZ ts (VL ts gs s).2:=by
 unfold VL
 split
 ·exact h
 split
 ·exact h
 rename_i h0
 split
 ·exact h
 split
 ·exact h
 intro t A
 rcases aW.1 A with A|A
 ·exact h t A
 rw [aX] at A;subst A
 simpa using h0
def Sd(h:tZ ts gs)(s):tZ ts (BH gs s).2:=by
 unfold BH
 split
 ·exact h
 split
 ·exact h
 exact fun t A=>h t (List.mem_of_mem_eraseIdx A)
structure UQ(w:af)(x:Nat)(mv lv gv:ag)(ts:List Ty)(gs:List Tu):Prop where
 p:PU w x mv lv gv gs
 m:∃bm tl,MC bm w mv ts tl
 l:Y2 ts lv w
def MQ(T:TypeId):Prop:=(T=207\/T=159\/T=110)\/LT T
variable {base size n k:Nat} {e:TypeId} {v:ag} {xs:List ag}
def oT(h:w.ownsRow base e size v n xs)(A:v.ownBlock=some k):∃m c,v=aA (some (aP k)) m c:=by
 rcases h.2 with ⟨rfl,_⟩|⟨g,cap,C,rfl,_⟩
 ·cases A
 simp only [Value.ownBlock,aR] at A;subst A;exact ⟨_,_,rfl⟩
section
variable {w w':af}{x:Nat}{mv lv gv:ag}{ts:List Ty}{gs:List Tu}
def UQ.keep{S:Nat->Prop}(h:UQ w x mv lv gv ts gs)(k:bK S w w')(D:∀k,BG x gv k->¬S k)(I:∀(k:Nat)(cs:Array ag)(T:TypeId)(f:Nat×Nat),S k->w.heap[k]? =some (Obj.cells cs T f)->¬MQ T):UQ w' x mv lv gv ts gs where
 p:=⟨k.blk h.p.blk (D _ (.inl rfl)),cH h.p.row (fun g cs f J A=>k.block g (lt_of_some A) (D g (.inr (oT h.p.row J)))),h.p.apart,h.p.most⟩
 m:=by
  obtain ⟨bm,tl,Q⟩:=h.m;exact ⟨bm,tl,Q.kt (fun g cs T f A C=>k.block g (lt_of_some A) (fun hs=>I g cs T f hs A (.inl C))) k.size⟩
 l:=by
  obtain ⟨qs,h1,h2⟩:=h.l;exact ⟨qs,h1.frame (fun g cs T f A C=>k.block g (lt_of_some A) (fun hs=>I g cs T f hs A (.inr C))),h2⟩
def UQ.below(h:UQ w x mv lv gv ts gs)(k:am w w'):UQ w' x mv lv gv ts gs:=h.keep (S:=fun _=>False) (.of_below k) (fun _ _ e=>e) (fun _ _ _ _ e=>e.elim)
end
variable {aD bq:Prop}
def xG (h:aD:=by
 first|omega|(simp;omega)|simp):aD:=h
def Aq(x:Nat)(lv gv:ag)(gs:List Tu)(ac:Option Addr)(mn mc:Nat)(w:af)(h:PU w x (aA ac mn mc) lv gv gs)(th rel:ae)(hs:th.size<=1000)(aW:bT th=true)(aV:rel.size<=maxLen)(aU:bC rel=true)(aT:ko w)(aX:1<w.heap.size)(ap:ag)(c:Nat)
  (hF:(∀w',am w w'->Calls prog 94 #[.agg #[aA ac mn mc],an (aG th 58).1,an rel] w' fun e w''=>∃(a0:Nat)(a1:ae)(U:Option Addr)(Y V I:Nat)(b1:ae),e=bi (.tuple #[.agg #[au a0,an a1,aA U Y V],.agg #[au I,an b1,.nilIface],ap])/\am w' w'')\/(∀w',am w w'->Calls prog 94 #[.agg #[aA ac mn mc],an (aG th 58).1,an rel] w' fun e w''=>∃(a0:Nat)(a1:ae)(U:Option Addr)(Y V I:Nat)(b1:ae)(aY:TypeId)(rv:ag),e=bi (.tuple #[.agg #[au a0,an a1,aA U Y V],.agg #[au I,an b1,.iface aY rv],ap])/\am w' w''))
  (a3:∀w',am w w'->Calls prog 41 #[ap] w' fun e w''=>e=bi (.tuple #[au c,au 0])/\am w' w''):
  Calls prog 56 #[bu x,an th,an rel] w fun e w'=>e=bi (.tuple #[.agg #[an (aG th 58).1,an (aG th 58).2.1,an rel],au c])/\am w w':=by
 rcases hF with hF|hF
 all_goals
  have I:am w (w.alloc Bq):=(az _ w).alloc aH _;have Z:=fC MW th _ hs (aT.below I aX) aS;rw [aW] at Z;have ad:=aL.new w #[an ⟨#[]⟩,an ⟨#[]⟩,an ⟨#[]⟩] 102;have aw:=fun w=>im rel w aV
  rw [aU] at aw;generalize aG th 58=X at*;obtain ⟨a,b,ok⟩:=X;simp only at Z hF ⊢;have a7:=h.blk.lt;clear aT aX hs aW aV aU;go_enter func56,ntmps56;go_wp2_with fail;refine Z.mono ?_;rintro e w1 ⟨rfl,ab⟩;have b1:=ab.alloc ab.size (dK a b);have Q:=I.trans (b1.mono I.size);have ax:=ad.below b1;have aj:=aL.new w1 #[an a,an b] 98;have n1:¬(w1.heap.size=w.heap.size):=by have:=(ad.below ab).lt;omega
  have n2:¬(w.heap.size=w1.heap.size):=ai;clear b1 ab Z I ad;go_wp2_with fail;refine (aw _).mono ?_;rintro e bl ⟨rfl,rfl⟩;generalize a6:w1.alloc (dK a b)=W at*;have av:=az W.heap.size W;have al:=h.blk.below Q;obtain ⟨aZ,bj,bk⟩:=three al;have t0:W.cell? (aP w1.heap.size)=some (an a):=aj.cell rfl;have t1:W.cell? (aC w1.heap.size 1)=some (an b):=aj.cell rfl;go_wp2_with fail;have l1:=Q.size;have a9:=aj.lt;have a8:=ax.lt;have bb:¬(x=W.heap.size):=by have:=al.lt;omega
  have ba:¬(w1.heap.size=W.heap.size):=ai;have nr:¬(w.heap.size=W.heap.size):=ai;clear al
  go_region_held3 (fun w'=>w'.cell? (aP x)=some (aA ac mn mc)/\w'.cell? (aP w1.heap.size)=some (an a)) ((first|go_keep|refine ⟨ak aZ ?_,ak t0 ?_⟩<;>(with_reducible repeat (first|exact J|exact av|refine Below.drew ?_|(refine Below.setCell ?_ ?_ _;rotate_left;exact mU)|(refine Below.alloc ?_ ?_ _;rotate_left;exact mU)))))
   ((go_at_call 94;refine (hF _ (show am w _ from (cq Q))).mono ?_;(first|rintro e a4 ⟨a0,a1,U,Y,V,c0,c1,rfl,D⟩|rintro e a4 ⟨a0,a1,U,Y,V,c0,c1,aY,rv,rfl,D⟩);have J:=(Below.trans (a:=W) (B:=W.heap.size) (show am W _ from (cq av)) (D.mono xG));have d0:=ak aZ J;have d1:=ak t0 J;(first|(have A:=(aL.new W fG 110).drew.below D;obtain ⟨ay,aB,aE⟩:=three A;have aO:=A.fz;have aK:=A.lt;clear A)|(have C:=(aL.new W fF 159).drew.below D;obtain ⟨aF,aI,aJ⟩:=three C;have aQ:=C.fz;have aN:=C.lt;clear C)|(have A:=((aL.new W fG 110).alloc cZ).drew.below D;have C:=(aL.new' (W.alloc dD) fF 159 (W.heap.size+1) ar).drew.below D;obtain ⟨ay,aB,aE⟩:=three A;have aO:=A.fz;have aK:=A.lt;obtain ⟨aF,aI,aJ⟩:=three C;have aQ:=C.fz;have aN:=C.lt;clear A C)|(have C:=((aL.new W fF 159).alloc dD).drew.below D;have A:=(aL.new' (W.alloc cZ) fG 110 (W.heap.size+1) ar).drew.below D;obtain ⟨ay,aB,aE⟩:=three A;have aO:=A.fz;have aK:=A.lt;obtain ⟨aF,aI,aJ⟩:=three C;have aQ:=C.fz;have aN:=C.lt;clear A C)|skip);have a5:=J.size;clear D))
  all_goals (
   go_wp2_with fail;refine (a3 _ (Q.trans ((show am W _ from (cq J)).mono l1))).mono ?_;rintro e bn ⟨rfl,aR⟩;have R:=Below.trans (a:=W) (B:=W.heap.size) (show am W _ from (cq J)) (aR.mono wm);have a2:=Q.trans (R.mono l1);have t4:=ak t0 R;have t5:=ak t1 R;have ah:=ax.below R;obtain ⟨bc,bf,bg⟩:=three ah;have bh:=ah.fz;clear aR R;go_wp2;refine bE (v:=.tuple #[.agg #[an a,an b,an rel],au c]) (ce results56 _ _ w.heap.size _ 102 _ _ rfl rfl ?_ underlying102 rfl aM) rfl ?_
   ·exact ⟨_,(cY ah),bQ⟩
   ·exact ⟨rfl,(cq a2)⟩)
def xH(x bm mv lv gv ts gs tl w)(h:PU w x mv lv gv gs)(A:MC bm w mv ts tl)(th rel)(hs:th.size<=1000)(U:bT th=true)(R:rel.size<=maxLen)(Q:bC rel=true)(t)(D:bW ts (aG th 58).1=some t)(r)(J:b8 t rel=some r)(I:ko w)(V:1<w.heap.size):
  Calls prog 56 #[bu x,an th,an rel] w fun e w'=>e=bi (.tuple #[.agg #[an (aG th 58).1,an (aG th 58).2.1,an rel],au 0])/\am w w':=by
 obtain ⟨Y,mn,mc,rfl⟩:=A.form;refine Aq x lv gv gs Y mn mc w h th rel hs U R Q I V .nilIface 0 (.inr fun w' k=> ?_) (fun w' _=>nO w');obtain ⟨ab,ad,ac,rl,Z,rv,_,_,_,C⟩:=si bm _ ts tl (aG th 58).1 rel w' (A.below k) t D r J;exact C.mono fun e w'' h=>⟨_,_,ab,ad,ac,_,_,Z,rv,h⟩
end Go.Proofs.YtlbpnlngckgcbaaGreatDoor
namespace Go.Proofs
open Go.Shelf Go.RowKit Go.Lib
variable {P:Program}{ρ:Ren}
def YtlbpnlngckgcbaaGreatDoor.cutL_one(A:Lays.n220 P ρ)(s:ByteArray)(c:UInt8)(w:World)(hs:s.size<=9223372036854775807):
  Calls P (ρ.f 220) #[an s,an ⟨#[c]⟩] w fun e w'=>e=bi (.tuple #[an ⟨(Lib.cut s.data.toList [c]).1.toArray⟩,an ⟨(Lib.cut s.data.toList [c]).2.1.toArray⟩,.bool (Lib.cut s.data.toList [c]).2.2])/\∃n,w'=w.drewN n:=by
 have ho:Lib.indexByte s.data.toList c=Lib.index s.data.toList (⟨#[c]⟩:ByteArray).data.toList:=by
  have h1:=(Lib.one s ⟨#[c]⟩ rfl).symm;have h2:((c.toNat:Nat):Int).toNat.toUInt8=c:=ar;have Q:Lib.indexByte s.data.toList ((c.toNat:Nat):Int).toNat.toUInt8=Lib.indexB s ⟨#[c]⟩:=h1;rw [h2] at Q;exact Q
 have t3:=A.t3;have t4:=A.t4;have t9:=A.t9;have Y:∀w,(isAgg (ρ.t 3)).run P w=.ok false w:=run_isAgg_plain A.t3 rfl;have Z:∀w,(isAgg (ρ.t 4)).run P w=.ok false w:=run_isAgg_plain A.t4 rfl;have ab:∀w,(isAgg (ρ.t 9)).run P w=.ok false w:=run_isAgg_plain A.t9 rfl;have ad:∀args w,(callFunc (ρ.f 219) args).run P w=.ok (.enter (ρ.f 219) args) w:=enters_of A.f219 aM rfl;have ag:=A.mixed;have al:=A.z3;have ah:=A.v3;have am:=A.z4;have aj:=A.v4;have ap:=A.z9;have ak:=A.v9
 rcases Lib.indexB_cases s ⟨#[c]⟩ with C|⟨i,C,R⟩
 ·obtain ⟨e1,D,I⟩:=Lib.cutB_miss s ⟨#[c]⟩ C;rw [show [c]=(⟨#[c]⟩:ByteArray).data.toList from rfl,e1,D,I];have J:Lib.indexByte s.data.toList c= -1:=ho.trans C;go_enter A.f220,Body.n220_ntmps ρ;go_wp2_with (go_at_fn (ρ.f 219);refine (Any.stringslite_Index_one {A with} _ _ _).mono ?_;rintro e w' ⟨rfl,rfl⟩;rw [J]);go_ret3;exact ⟨rfl,0,rfl⟩
 ·obtain ⟨e1,D,I⟩:=Lib.cutB_hit s ⟨#[c]⟩ i C;rw [show [c]=(⟨#[c]⟩:ByteArray).data.toList from rfl,e1,D,I];have J:Lib.indexByte s.data.toList c=(i:Int):=ho.trans C;have U:(⟨#[c]⟩:ByteArray).size=1:=rfl;rw [U] at R;have c1:(0:Int)<=↑i:=ai;have c2:(↑i:Int)<=↑s.size:=ai;have c3:(0:Int)<=↑i+1:=ai;have ac:(↑i+1:Int)<=↑s.size:=ai;go_enter A.f220,Body.n220_ntmps ρ;go_wp2_with (go_at_fn (ρ.f 219);refine (Any.stringslite_Index_one {A with} _ _ _).mono ?_;rintro e w' ⟨rfl,rfl⟩;rw [J])
  go_region_o
  go_wp2;go_ret3;exact ⟨rfl,1,rfl⟩
def YtlbpnlngckgcbaaGreatDoor.cutS_one(A:Lays.n145 P ρ)(s:ByteArray)(c:UInt8)(w:World)(hs:s.size<=9223372036854775807):
  Calls P (ρ.f 145) #[an s,an ⟨#[c]⟩] w fun e w'=>e=bi (.tuple #[an ⟨(Lib.cut s.data.toList [c]).1.toArray⟩,an ⟨(Lib.cut s.data.toList [c]).2.1.toArray⟩,.bool (Lib.cut s.data.toList [c]).2.2])/\∃n,w'=w.drewN n:=by
 have t4:=A.t4;have t9:=A.t9;have t59:=A.t59;have C:∀w,(isAgg (ρ.t 4)).run P w=.ok false w:=run_isAgg_plain A.t4 rfl;have I:∀w,(isAgg (ρ.t 9)).run P w=.ok false w:=run_isAgg_plain A.t9 rfl;have D:∀w,(isAgg (ρ.t 59)).run P w=.ok false w:=run_isAgg_plain A.t59 rfl;have J:∀args w,(callFunc (ρ.f 220) args).run P w=.ok (.enter (ρ.f 220) args) w:=enters_of A.f220 aM rfl;have Q:=A.mixed;have Y:=A.z4;have R:=A.v4;have ab:=A.z9;have V:=A.v9;have Z:=A.z59;have U:=A.v59;go_enter A.f145,Body.n145_ntmps ρ;go_wp2_with (go_at_fn (ρ.f 220);refine (YtlbpnlngckgcbaaGreatDoor.cutL_one {A with} _ _ _ hs).mono ?_;rintro e w' ⟨rfl,n,rfl⟩);go_ret3;exact ⟨rfl,n,rfl⟩
end Go.Proofs
namespace Go.Proofs.YtlbpnlngckgcbaaGreatDoor
open Go.RowKit Go.PlainAid Go.Proofs.Tryz
def WX(s c w)(hs:s.size<=maxLen):Calls Tryz.prog 92 #[an s,an (mk [c])] w fun e w'=>e=bi (.tuple #[an (aG s c).1,an (aG s c).2.1,.bool (aG s c).2.2])/\am w w':=by
 refine (cutS_one Tryz.lays145 s c w (by unfold maxLen at hs;omega)).mono ?_;rintro e w' ⟨rfl,n,rfl⟩;refine ⟨?_,⟨rfl,rfl,rfl,bV _,fun _ _=>rfl⟩⟩;rw [J6 s.data.toList c]
 rfl
def py(s w)(hs:s.size<=maxLen):
  Calls Tryz.prog 55 #[an s] w fun e w'=>e=bi (.tuple #[.agg #[an (aG s 58).1,an (aG s 58).2.1],.bool (bT s)])/\am w w':=by
 unfold bT;have z:=eo s 58;have D:am w (w.alloc (.cells #[an ⟨#[]⟩,an ⟨#[]⟩] 98)):=(az _ w).alloc aH _;have C:=WX s 58 (w.alloc (.cells #[an ⟨#[]⟩,an ⟨#[]⟩] 98)) hs;have Q:=aL.new w #[an ⟨#[]⟩,an ⟨#[]⟩] 98;generalize aG s 58=X at*;obtain ⟨a,b,ok⟩:=X;simp only at z C ⊢;have J:=fun w=>im a w ai
 have Cq:=fun w=>im b w ai
 generalize bC a=p at*;generalize bC b=q at*;go_enter Tryz.func55,Tryz.ntmps55;go_wp2_with fail;refine C.mono ?_;rintro e w1 ⟨rfl,I⟩;have B1:=D.trans (I.mono D.size);have R1:=Q.below I;have V:=R1.fz;have R:w1.cell? (aP w.heap.size)=some (an ⟨#[]⟩):=R1.cell rfl;have U:w1.cell? (aC w.heap.size 1)=some (an ⟨#[]⟩):=R1.cell rfl;go_wp2_with fail;refine (J _).mono ?_;rintro e Y ⟨rfl,rfl⟩
 cases p
 ·skip
  exact Xy
 ·exact Xx
variable {s:ByteArray}
def ou(h:bT s=true):s.size<=1000:=by
 unfold bT at h;simp only [bO] at h;have h1:=dl h.1;have h2:=dl h.2;have A:=hQ (iV h.2);omega
end Go.Proofs.YtlbpnlngckgcbaaGreatDoor
namespace Go.Proofs.YtlbpnlngckgcbaaGreatDoor
open Go.RowKit Go.PlainAid Go.Proofs.Tryz
def yi(x bm mv lv gv ts gs tl w)(h:PU w x mv lv gv gs)(A:MC bm w mv ts tl)(th rel)(hs:th.size<=1000)(V:bT th=true)(U:rel.size<=maxLen)(R:bC rel=true)(Q:∀t,bW ts (aG th 58).1=some t->b8 t rel=none)(I:Laid w)(J:ko w)(Y:1<w.heap.size):
  Calls prog 56 #[bu x,an th,an rel] w fun e w'=>e=bi (.tuple #[.agg #[an (aG th 58).1,an (aG th 58).2.1,an rel],au 5])/\am w w':=by
 obtain ⟨Z,mn,mc,rfl⟩:=A.form;refine Aq x lv gv gs Z mn mc w h th rel hs V U R J Y (cm 5) 5 (.inl fun w' k=> ?_) (fun w' k=>kw 5 w' (I.below k ai))
 cases C:bW ts (aG th 58).1 with
 |none=>exact (pS bm _ ts tl (aG th 58).1 rel w' (A.below k) C).mono fun e w'' h=>⟨_,_,_,_,_,_,_,h⟩
 |some t=>
  obtain ⟨ab,ad,ac,D⟩:=pT bm _ ts tl (aG th 58).1 rel w' (A.below k) t C (Q t C);exact D.mono fun e w'' h=>⟨_,_,ab,ad,ac,_,_,h⟩
def yj(x th rel w)(hs:th.size<=maxLen)(R:rel.size<=maxLen)(V:(bT th&&bC rel)=false):
  Calls prog 56 #[bu x,an th,an rel] w fun e w'=>e=bi (.tuple #[.agg #[an ⟨#[]⟩,an ⟨#[]⟩,an ⟨#[]⟩],au 2])/\am w w':=by
 have J:am w (w.alloc Bq):=(az _ w).alloc aH _;have D:=py th (w.alloc Bq) hs;have I:=aL.new w #[an ⟨#[]⟩,an ⟨#[]⟩,an ⟨#[]⟩] 102;have U:=fun w=>im rel w R
 generalize bC rel=fr at*;generalize bT th=tp at*;generalize aG th 58=X at*;obtain ⟨a,b,ok⟩:=X;simp only at D ⊢;clear hs R;go_enter func56,ntmps56;go_wp2_with fail;refine D.mono ?_;rintro e w1 ⟨rfl,C⟩;have b1:=C.alloc C.size (dK a b);have Q:=J.trans (b1.mono J.size);have A:=I.below b1;have n1:¬(w1.heap.size=w.heap.size):=by have:=(I.below C).lt;omega
 have n2:¬(w.heap.size=w1.heap.size):=ai;obtain ⟨Y,Z,ab⟩:=three A;have ac:=A.fz;clear b1 C D J I
 cases tp
 ·go_wp2;refine bE (v:=.tuple #[.agg #[an ⟨#[]⟩,an ⟨#[]⟩,an ⟨#[]⟩],au 2]) (ce results56 _ _ w.heap.size _ 102 _ _ rfl rfl ?hB underlying102 rfl aM) rfl ?post
  case hB=>exact ⟨_,(cY A),bQ⟩
  case post=>exact ⟨rfl,(cq Q)⟩
 ·cases fr
  ·go_wp2_with fail;refine (U _).mono ?_;rintro e ad ⟨rfl,rfl⟩;go_wp2;refine bE (v:=.tuple #[.agg #[an ⟨#[]⟩,an ⟨#[]⟩,an ⟨#[]⟩],au 2]) (ce results56 _ _ w.heap.size _ 102 _ _ rfl rfl ?hB underlying102 rfl aM) rfl ?post
   case hB=>exact ⟨_,(cY A),bQ⟩
   case post=>exact ⟨rfl,(cq Q)⟩
  cases V
