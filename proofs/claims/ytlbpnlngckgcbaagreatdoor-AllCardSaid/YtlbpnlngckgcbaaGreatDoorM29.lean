import Derived.Test.YtlbpnlngckgcbaaGreatDoorM26
import Derived.Test.YtlbpnlngckgcbaaGreatDoorM24
import Derived.Test.YtlbpnlngckgcbaaGreatDoorM25
import Derived.Test.YtlbpnlngckgcbaaGreatDoorM27
set_option linter.all false
set_option maxHeartbeats 4000000
set_option maxRecDepth 100000
namespace Go.Proofs.YtlbpnlngckgcbaaGreatDoor
open Go.RowKit Go.PlainAid Go.Proofs.Tryz
def Uh(rl:List RV)(h:Nat->List Gr)(ss:List ae)(s:ae):Nat×List ae:=if dK s=false then (2,ss) else if bi (b8 s).1.kind (b8 s).1.rel rl 0<0 then (5,ss) else if (h (bi (b8 s).1.kind (b8 s).1.rel rl 0).toNat).any (jl (b8 s).1)=false then (7,ss) else if 0<=ku ss s then (4,ss) else if ss.length=24 then (8,ss) else (0,ss++[s])
variable {b g5 bf:Nat} {mp:ag} {ss:List ae} {s:ae} {w W w5:af} {o:Obj}
def Rj{ta tc}(H:DU w b mp (aw ta ss.length tc) ss)(hB:an w W)(D:ss.length<1000)(C:(W.alloc o).drew.grownBy w5 (Value.slice ta ss.length tc).ownBlock)(O5:w5.ownsRow 0 264 7 (aw (some (aN g5)) (ss.length+1) bf) (ss.length+1) (ss.flatMap JN++JN s))(A5:(Value.slice ta ss.length tc).ownBlock=some g5\/g5=W.heap.size+1)(K5:aL w5 b #[mp,aw ta ss.length tc] 262):
  iX b mp (aw ta ss.length tc) w (0,ss++[s]) (bj (ar 0)) (w5.setCell (aC b 1) (aw (some (aN g5)) (ss.length+1) bf)):=by
 have Vi:∀k,(aw ta ss.length tc).ownBlock=some k->HY b (aw ta ss.length tc) k:=fun k hk=>by
  exact Xj
 refine ⟨_,rfl,⟨K5.set 1 _,?_,?_,by show (ss++[s]).length<=1000;simp;omega⟩,((bK.of_below ((hB.alloc hB.size o).drew)).trans (dD C Vi)).set (.inl rfl) _,?_⟩
 .show World.ownsRow _ 0 264 7 _ (ss++[s]).length ((ss++[s]).flatMap JN)
  have:=bU O5 K5 ay 1 (aw (some (aN g5)) (ss.length+1) bf);exact PE
 .exact Xi
 .exact Xh
def H0(b bm s w kv rv pv tv kl rl pl l ss dN)(h:DU w b (.pointer (some (aC bm 5))) tv ss)(ag:DM w bm kv rv pv kl rl pl l)(ae:nL rl pl dN)(hs:s.size<=maxLen)(ba:ss.length<1000):
  Calls prog 84 #[bc b,aj s] w (iX b (.pointer (some (aC bm 5))) tv w (Uh rl dN ss s)):=by
 have C1:=wB s w hs;rw [Pz] at C1;unfold Tu.cells at C1;have H:=h;have aK:=fun w' (k:an w w')=>zc b s w' _ tv ss (h.below k)
 have bb:=h.blk.lt;have a4:=ak (show JN s=[aj (b8 s).1.kind,aj (b8 s).1.id,aj (b8 s).1.rel,aj (b8 s).1.sub,aj (b8 s).1.who,aj (b8 s).1.of,aj s] from rfl);unfold Uh;generalize (b8 s).1=T at*;obtain ⟨r,A⟩:∃r,r=(if dK s=false then (2,ss) else if bi T.kind T.rel rl 0<0 then (5,ss) else if (dN (bi T.kind T.rel rl 0).toNat).any (jl T)=false then (7,ss) else if 0<=ku ss s then (4,ss) else if ss.length=24 then (8,ss) else (0,ss++[s])):=⟨_,rfl⟩;rw [<-A]
 cases ho:dK s
 .rw [ho] at C1 A;rw [if_pos rfl] at A;subst A;clear h hs ho ag ae;go_enter func84,ntmps84;go_wp2_with fail;refine wC ?_;intro w1 hb1 B1;clear hb1 C1;go_wp2;go_ret;exact iX.same H B1 2
 .rw [ho] at C1 A;rw [if_neg au] at A;have Y:=ak A;have aJ:=fun w' (k:an w w')=>ef bm kv rv pv kl rl pl l T.kind T.rel w' (ag.below k)
  have al:=fun (q:Nat) (aF:bi T.kind T.rel rl 0=(q:Int)) (ah:q<rl.length) w' (k:an w w')=>Md b bm s T w' kv rv pv tv kl rl pl l ss (h.below k) (ag.below k) q (dN q) aF (ae q ah).1 (ae q ah).2
  have ar:=dd T.kind T.rel rl 0;obtain ⟨ta,tc,rfl⟩:=ax h.row;clear h hs ho ag ae A;go_enter func84,ntmps84;go_wp2_with fail;refine wC ?_;intro w1 hb1 B1;have aO:=(H.below B1).blk;have ad:=aL.new w1 #[aj T.kind,aj T.id,aj T.rel,aj T.sub,aj T.who,aj T.of,aj s] 264;have bh:¬(w1.heap.size=b):=by have:=hb1.size;omega
  have bj:¬(b=w1.heap.size):=by have:=hb1.size;omega
  clear hb1 C1;go_wp2_with fail;have l1:=B1.size;generalize (w1.alloc (.cells #[aj T.kind,aj T.id,aj T.rel,aj T.sub,aj T.who,aj T.of,aj s] 264))=W at*;obtain ⟨aG,aH⟩:=fZ aO;have aT:W.cell? (aN w1.heap.size)=some (aj T.kind):=ad.cell rfl;have aU:W.cell? (aC w1.heap.size 2)=some (aj T.rel):=ad.cell rfl;have ap:=aJ W.drew B1.drew;obtain ⟨n,hn⟩:∃n,n=bi T.kind T.rel rl 0:=⟨_,rfl⟩;rw [<-hn] at ap ar Y al;clear aJ hn
  go_region_held3 (fun w'=>w'.cell? (aN b)=some (.pointer (some (aC bm 5)))/\w'.cell? (aN w1.heap.size)=some (aj T.kind)/\w'.cell? (aC w1.heap.size 2)=some (aj T.rel)) (go_keep)
   ((go_at_call 132;refine ap.mono ?_;rintro e I ⟨rfl,aQ⟩;have Q:=(show an W I from (aA _ W).drew.trans aQ);have d0:=am aG Q;have d1:=am aT Q;have d2:=am aU Q;clear aQ))
  have U:=B1.trans (Q.mono l1);have D:=ad.below Q;have l2:=U.size;clear d0 d1 d2 aG aH aT aU ap Q ad aO B1
  by_cases hn:n<0
  .have A:=aE Y;rw [if_pos hn] at A;subst A;clear Y;go_wp2;go_ret;exact iX.same H U 5
  have A:=aE Y;rw [if_neg hn] at A;obtain ⟨q,aF,ah⟩:∃q:Nat,n=q/\q<rl.length:=by
   rcases aE ar with h|⟨j,h,_,h2⟩
   .omega
   exact ⟨j,h,ai⟩
  subst aF;rw [kh] at A;have R:=ak A;have E:=al q rfl ah I U;obtain ⟨aI,aV,aW,aX,aY,aZ,a0⟩:I.cell? (aN w1.heap.size)=some (aj T.kind)/\I.cell? (aC w1.heap.size 1)=some (aj T.id)/\I.cell? (aC w1.heap.size 2)=some (aj T.rel)/\I.cell? (aC w1.heap.size 3)=some (aj T.sub)/\I.cell? (aC w1.heap.size 4)=some (aj T.who)/\I.cell? (aC w1.heap.size 5)=some (aj T.of)/\I.cell? (aC w1.heap.size 6)=some (aj s):=⟨D.cell rfl,D.cell rfl,D.cell rfl,D.cell rfl,D.cell rfl,D.cell rfl,D.cell rfl⟩;generalize (dN q).any (jl T)=a8 at*;clear A Y ar al;go_wp2_with fail;refine E.mono ?_;rintro e a9 ⟨rfl,ay⟩;have ac:=U.trans (ay.mono l2);have aM:=D.below ay;have F:=aK a9 ac;have a7:=ac.size;clear ay E aK U D aI aV aW aX aY aZ a0;generalize ku ss s=m at*;go_wp2_with fail;refine F.mono ?_;rintro e C ⟨rfl,az⟩;have V:=ac.trans (az.mono a7);have J:=aM.below az;have av:=H.below V;obtain ⟨aG,aH⟩:=fZ av.blk;clear az F ac aM
  cases a8
  .have A:=R.u;rw [if_pos rfl] at A;subst A;clear R;go_wp2;go_ret;exact iX.same H V 7
  have A:=R.u;rw [if_neg au] at A
  by_cases aB:0<=m
  .rw [if_pos aB] at A;subst A;clear R;go_wp2;go_ret;exact iX.same H V 4
  rw [if_neg aB] at A;have bg:decide (0<=m)=false:=lU aB
  by_cases ab:ss.length=24
  .rw [if_pos ab] at A;subst A;have a6:((ss.length:Int)==24)=true:=by rw [ab];rfl
   clear R ab;go_wp2;go_ret;exact iX.same H V 8
  rw [if_neg ab] at A;subst A;have a6:((ss.length:Int)==24)=false:=by rw [bW];omega
  clear R ab;have aI:C.cell? (aN w1.heap.size)=some (aj T.kind):=J.cell rfl;have aV:C.cell? (aC w1.heap.size 1)=some (aj T.id):=J.cell rfl;have aW:C.cell? (aC w1.heap.size 2)=some (aj T.rel):=J.cell rfl;have aX:C.cell? (aC w1.heap.size 3)=some (aj T.sub):=J.cell rfl;have aY:C.cell? (aC w1.heap.size 4)=some (aj T.who):=J.cell rfl;have aZ:C.cell? (aC w1.heap.size 5)=some (aj T.of):=J.cell rfl;have a0:C.cell? (aC w1.heap.size 6)=some (aj s):=J.cell rfl;go_wp2_with fail;have af:=av.blk;have bl:=af.fz;have bo:=ce C _ aH;have bp:=ce C _ aI;have c7:(C.alloc (.cells #[aj T.kind,aj T.id,aj T.rel,aj T.sub,aj T.who,aj T.of,aj s] 264)).cell? (aC b 1)=some (aw ta ss.length tc):=(af.alloc _).cell rfl;have bk:¬(b=C.heap.size):=by have:=af.lt;omega
  go_region_law (refine AC rfl underlying260 Tryz.infoDT 0 (cQ (av.row.alloc _)) ((af.alloc (.cells #[aj T.kind,aj T.id,aj T.rel,aj T.sub,aj T.who,aj T.of,aj s] 264)).drew) C.heap.size 1 [aj T.kind,aj T.id,aj T.rel,aj T.sub,aj T.who,aj T.of,aj s] (C.heap.size+1) ?_;intro g5 bf w5 aS aR aP be Z;obtain ⟨bq,bs⟩:=fZ Z;have zq:=Z.fz;have a3:=Z;have a2:=aR;have a5:=aS;have a1:=aP;have bn:=Z.lt;clear Z aR aS aP)
  all_goals
   go_wp2;go_ret;exact Rj H V ai a2 (by rw [a4];exact a5) a1 a3
def Eu(h:dK s=true):((b8 s).1.who=dJ/\(b8 s).1.of.size=0)\/(bC (b8 s).1.who=true/\(b8 s).1.of.size=0)\/(bC (b8 s).1.who=true/\bC (b8 s).1.of=true):=by
 unfold dK at h;simp only [bP] at h;obtain ⟨⟨_,h2⟩,_⟩:=h;have R:(b8 s).1.who=(nj (aG (aG s 64).2.1 35).1 (aG (aG s 64).2.1 35).2.2).2.1:=rfl;have tzo:(b8 s).1.of=(aG (aG s 64).2.1 35).2.1:=rfl;rw [R,tzo];generalize (aG s 64).2.1=r at*;unfold kk at h2;unfold nj;rw [fX]
 cases C:(aG r 35).2.2
 .rw [C] at h2;simp only [bJ,a8,kZ,bP] at h2;obtain ⟨I,U⟩:=fW C;rw [I] at h2;rw [I,U];simp only [nC,Bool.and_true]
  rcases h2 with h2|⟨h2,A⟩
  .have D:=h2;unfold bS at h2;simp only [bP] at h2;rw [D];exact .inr (.inl ⟨h2.2,rfl⟩)
  have Q:=JL h2;have D:bS r=false:=by unfold bS;rw [Q];simp [show bC dJ=false by decide]
  rw [D];exact .inl ⟨rfl,rfl⟩
 rw [C] at h2;simp only [if_true,bP] at h2;obtain ⟨A,J⟩:=h2;unfold bS at A;simp only [bP] at A;simp only [mm,pe,bJ,a8];exact .inr (.inr ⟨A.2,J⟩)
def J4(h:s.size=0):s=em:=by
 have e:bB s=[]:=iF CM;rw [<-cX s,e]
 rfl
def nQ{a c}(h:a≠c):eqs a c=false:=by
 rw [Av];exact fun e=>h ((bz _ _).1 e)
def Ev(a):eqs a a=true:=(bz _ _).2 rfl
def VF{T}(Z:(T.who=dJ/\T.of.size=0)\/(bC T.who=true/\T.of.size=0)\/(bC T.who=true/\bC T.of=true)){g}(h1:iB g)(h2:xY g):gD g T=jl T g:=by
 have ad:(jO:ae)=dJ:=rfl;have U:∀x:ae,bC x=true->x≠dJ:=fun x C e=>by rw [e] at C;exact absurd C ay
 have ab:∀x:ae,dC x=true->x≠dJ:=fun x C e=>by rw [e] at C;exact absurd C ay
 have ac:∀x:ae,dC x=true->x≠em:=fun x C e=>by rw [e] at C;exact absurd C ay
 have l9:g.reach=1->bH g=dJ:=fun e=>by unfold bH;rw [if_pos e];rfl
 have I:g.reach≠1->bH g=g.rel:=fun e=>by unfold bH;rw [if_neg e]
 unfold gD jl;rw [ad]
 cases eqs g.ty T.sub
 .rfl
 rw [fS,fS]
 rcases Z with ⟨D,ho⟩|⟨D,ho⟩|⟨D,ho⟩
 .have J:im T.who T.of=1:=by unfold im;rw [if_pos ho,D,Ev,if_pos rfl]
  have hv:(if eqs T.who dJ=true then dJ else T.of)=dJ:=by rw [D,Ev,if_pos rfl]
  rw [J,hv,J4 ho]
  rcases h1 with ⟨Q,e⟩|A|⟨R,hn⟩
  .rw [I ai,Q,e];decide
  .rw [l9 A,A,h2 A];decide
  rw [I ai,R,nQ (ab _ hn)];simp
 .have J:im T.who T.of=0:=by unfold im;rw [if_pos ho,nQ (U _ D)];rfl
  have hv:(if eqs T.who dJ=true then dJ else T.of)=T.of:=by rw [nQ (U _ D)];rfl
  rw [J,hv,J4 ho]
  rcases h1 with ⟨Q,e⟩|A|⟨R,hn⟩
  .rw [I ai,Q,e];decide
  .rw [l9 A,A,h2 A];decide
  rw [I ai,R,nQ (ac _ hn)];simp
 have Y:=dn ho;have J:im T.who T.of=2:=by unfold im;rw [if_neg ai]
 have hv:(if eqs T.who dJ=true then dJ else T.of)=T.of:=by rw [nQ (U _ D)];rfl
 have V:em≠T.of:=fun e=>by rw [<-e] at Y;exact absurd Y.1 ay
 rw [J,hv]
 rcases h1 with ⟨Q,e⟩|A|⟨R,hn⟩
 .rw [I ai,Q,e,nQ V];simp
 .rw [l9 A,A,h2 A,nQ V,nQ (fun e=>U _ ho e.symm)];simp
 rw [I ai,R];simp
def Rr{l:List Gr}{f g:Gr->Bool}(h:∀x∈l,f x=g x):l.any f=l.any g:=by
 induction l with
 |nil=>rfl
 |cons a l ih=>rw [kg,kg,h a au,ih (fun x hx=>h x yC)]
structure Mod(ts:List Ty)(pl:List PV)(rl:List RV)(dN:Nat->List Gr):Prop where
 d:et ts
 b:dc pl rl (bx ts)
 g:∀(j:Nat)(k:ae)(r:Rl),(bx ts)[j]? =some (k,r)->dN j=bR r.body
 ok:∀t∈ts,∀r∈t.rels,∀x∈bR r.body,iB x/\xY x
variable {ts:List Ty} {pl:List PV} {rl:List RV} {gs:List Tu}
def wG{dN}(C:Mod ts pl rl dN)(h:sy gs ss)(s):(Vj ts gs s).1=(Uh rl dN ss s).1/\sy (Vj ts gs s).2 (Uh rl dN ss s).2:=by
 unfold Vj Uh
 by_cases h1:dK s=false
 .rw [if_pos h1,if_pos h1];exact ⟨rfl,h⟩
 have ho:dK s=true:=by simpa using h1
 rw [if_neg h1,if_neg h1,Et h ho];have ab:=Eu ho;have ad:gs.length=ss.length:=by rw [h.eq,bO]
 have ac:sy (gs++[(b8 s).1]) (ss++[s]):=⟨by rw [h.eq,cK];rfl,fun y A=>by
  rcases aW.1 A with A|A
  .exact h.ok y A
  rw [aX] at A;rw [A];exact ho⟩
 generalize (b8 s).1=T at*
 rcases cS C.d C.b T.kind T.rel with ⟨e,ae⟩|⟨j,t,r,e,J,Q,Z⟩
 .have V:mP ts T=5:=by
   unfold mP
   split
   .rfl
   rename_i t I;rw [ae t I]
  rw [V,e,if_pos ai,if_pos ai];exact ⟨rfl,h⟩
 rw [e,kh,if_neg (show ¬((j:Int)<0) by omega),C.g j _ r Z];have R:=(cF Q).1;have I:=(cw J).1;have Y:(bR r.body).any (fun g=>gD g T)=(bR r.body).any (jl T):=Rr (fun x U=>VF ab (C.ok t I r R x U).1 (C.ok t I r R x U).2);have em:mP ts T=if (bR r.body).any (jl T) then 0 else 7:=by
  unfold mP;rw [J];simp only [Q];rw [Y]
 rw [em]
 cases hv:(bR r.body).any (jl T)
 .rw [if_pos rfl,if_pos au];exact ⟨rfl,h⟩
 simp only [if_true,ne_eq,not_true_eq_false,a8,Bool.true_eq_false]
 by_cases hi:0<=ku ss s
 .rw [if_pos hi,if_pos hi];exact ⟨rfl,h⟩
 rw [if_neg hi,if_neg hi,ad]
 by_cases D:ss.length=24
 .rw [if_pos D,if_pos D];exact ⟨rfl,h⟩
 rw [if_neg D,if_neg D];exact ⟨rfl,ac⟩
def XM(ts:List Ty)(I:Nat->Prop)(bm:Nat)(w:af):Prop:=∃(kv rv pv:ag) (kl:List (ae×Nat)) (rl:List RV) (pl:List PV) (l:List PX) (h:Nat->List Gr),YB w bm kv rv pv kl rl pl l/\Mod ts pl rl h/\nL rl pl h/\∀x∈l,∀k,x.2.2.1.ownBlock=some k->I k
def KX(I:Nat->Prop)(w w':af):Prop:=∀(g:Nat)(cs:Array ag)(T:TypeId)(f:Nat×Nat),w.heap[g]? =some (Obj.cells cs T f)->RT T->(T=3->I g)->w'.heap[g]? =w.heap[g]?
variable {F j:Nat} {r:Rl}
def Rx(hF:cT pl F rl (bx ts)){k}(A:(bx ts)[j]? =some (k,r)):eH rl pl (aJ pl F) j=bR r.body:=by
 obtain ⟨x,hx,_,_,_,htr⟩:=cT.get rl _ j _ hF A;exact HM
def parse_ok(A:dy s=.ok ts)(w:af):Calls prog 80 #[aj s] w fun e w'=>∃bm,e=bj (.tuple #[.pointer (some (aC bm 5)),ar 0,ar 0])/\an w w'/\XM ts (fun k=>w.heap.size<=k) bm w':=by
 unfold dy at A
 split at A
 .simp at A
 rename_i hs
 split at A
 .simp at A
 rename_i Q m C
 split at A
 .simp at A
 rename_i hc;simp only [dW] at A;subst A;refine (jm s w ai).mono fun e w' h=> ?_
 have h2:=h.2;rw [C] at h2;simp only [hc] at h2;obtain ⟨b,kv,rv,pv,kl,rl,pl,l,e1,U,I,Y,R,V⟩:=h2;obtain ⟨F,hF⟩:=dc.fuel rl _ I.2;have ad:=sized C Y ai;have ac:CB [] Q=none:=by
  unfold eB at hc
  split at hc
  .simp at hc
  assumption
 exact ⟨b,e1,h.1,kv,rv,pv,kl,rl,pl,l,eH rl pl (aJ pl F),⟨U,R⟩,⟨(lG Q [] ac).2,I.2,fun j k r Z=>Rx hF Z,fun t J r A x D=>⟨J0 (sq C) t J r A x D,Q8 C t J r A x D⟩⟩,Bz hF ad,fun x D k ab=>V x D k (.inr (.inl ab))⟩
variable {p c:Nat}
def Mi(h:eB ts=some (p,c)):c≠0:=by
 unfold eB at h
 split at h
 .simp at h;omega
 split at h
 .simp at h;omega
 split at h
 .simp at h;omega
 simp at h
def oz{o}(A:dy s=.error (o,c))(w):c≠0/\∃p:Nat,Calls prog 80 #[aj s] w fun e w'=>e=bj (.tuple #[.pointer none,ar c,ar p])/\an w w':=by
 unfold dy at A
 split at A
 .rename_i hs;simp only [Except.error.injEq,gW] at A;obtain ⟨_,rfl⟩:=A;exact ⟨ai,0,wk s w hs⟩
 rename_i hs;have C:=jm s w ai
 split at A
 .rename_i c0 j D;simp only [Except.error.injEq,gW] at A;obtain ⟨_,rfl⟩:=A;obtain ⟨e,w',fr,J,_⟩:=C [];have I:=J.2;rw [D] at I;refine ⟨I.1,PP s j,C.mono fun e w' h=> ?_⟩;have h2:=h.2;rw [D] at h2;exact ⟨h2.2,h.1⟩
 rename_i ts m D
 split at A
 .rename_i p c0 hc;simp only [Except.error.injEq,gW] at A;obtain ⟨_,rfl⟩:=A;refine ⟨Mi hc,p,C.mono fun e w' h=> ?_⟩;have h2:=h.2;rw [D] at h2;simp only [hc] at h2;exact ⟨h2,h.1⟩
 simp at A
def SrcM(ts:List Ty)(pl:List PV)(kl:List (ae×Nat))(rl:List RV):Prop:=∃s m,s.size<=500/\dy s=.ok ts/\dI (TT s) (PP s)=.ok (ts,m)/\Gd s m/\tO pl kl rl ts
def XS(ts:List Ty)(I:Nat->Prop)(bm:Nat)(w:af):Prop:=∃(kv rv pv:ag) (kl:List (ae×Nat)) (rl:List RV) (pl:List PV) (l:List PX) (h:Nat->List Gr),YB w bm kv rv pv kl rl pl l/\Mod ts pl rl h/\(nL rl pl h/\SrcM ts pl kl rl)/\∀x∈l,∀k,x.2.2.1.ownBlock=some k->I k
variable {bm:Nat} {w':af}
def XS.kx{I}(h:XS ts I bm w)(k:KX I w w'):XS ts I bm w':=by
 obtain ⟨kv,rv,pv,kl,rl,pl,l,Y,U,h2,Z,Q⟩:=h;have C:∀{base:Nat} {e:TypeId} {size:Nat} {v:ag} {n:Nat} {xs:List ag},w.ownsRow base e size v n xs->RT e->e≠3->w'.ownsRow base e size v n xs:=fun h ab hn=>az h (fun g cs f _ D=>k g cs _ f D ab (fun e=>absurd e hn))
 obtain ⟨cs,R⟩:=U.blk;have e:=k bm cs _ _ R (.inl rfl) (fun h=>absurd h ay);have hc:∀o v,w.cell? (aC bm o)=some v->w'.cell? (aC bm o)=some v:=fun o v hv=>(jw (w:=w) e).trans hv
 have A:=U.dm;refine ⟨kv,rv,pv,kl,rl,pl,l,Y,⟨⟨hc _ _ A.c5,hc _ _ A.c6,hc _ _ A.c7,C A.kt (.inr (.inl rfl)) ay,C A.rt (.inr (.inr (.inl rfl))) ay,⟨A.pt.fst,C A.pt.row (.inr (.inr (.inr (.inl rfl)))) ay,fun x V=> ?_⟩,A.kn,A.rn,A.pn⟩,cs,e.trans R⟩,h2,Z,Q⟩;have J:=A.pt.rep x V;exact ⟨C J.g (.inr (.inr (.inr (.inr (.inl rfl))))) ay,cH J.p (fun g cs f ac D=>k g cs _ f D (.inr (.inr (.inr (.inr (.inr (.inl rfl)))))) (fun _=>Q x V g ac)),C J.s (.inr (.inr (.inr (.inr (.inr (.inr rfl)))))) ay⟩
def XS.kd{I}(h:XS ts I bm w)(k:KD w w'):XS ts I bm w':=h.kx (fun g cs T f A C _=>k g cs T f A C)
def zE(A:dy s=.ok ts)(w):Calls prog 80 #[aj s] w fun e w'=>∃bm,e=bj (.tuple #[.pointer (some (aC bm 5)),ar 0,ar 0])/\an w w'/\XS ts (fun k=>w.heap.size<=k) bm w':=by
 have ac:=A;unfold dy at A
 split at A
 .simp at A
 rename_i hs
 split at A
 .simp at A
 rename_i R m C
 split at A
 .simp at A
 rename_i hc;simp only [dW] at A;subst A;refine (jm s w ai).mono fun e w' h=> ?_
 have h2:=h.2;rw [C] at h2;simp only [hc] at h2;obtain ⟨b,kv,rv,pv,kl,rl,pl,l,e1,V,I,J,U,Y⟩:=h2;obtain ⟨F,hF⟩:=dc.fuel rl _ I.2;have ae:=sized C J ai;have ad:CB [] R=none:=by
  unfold eB at hc
  split at hc
  .simp at hc
  assumption
 exact ⟨b,e1,h.1,kv,rv,pv,kl,rl,pl,l,eH rl pl (aJ pl F),⟨V,U⟩,⟨(lG R [] ad).2,I.2,fun j k r Z=>Rx hF Z,fun t Q r A x D=>⟨J0 (sq C) t Q r A x D,Q8 C t Q r A x D⟩⟩,⟨Bz hF ae,s,m,ai,ac,C,J,I⟩,fun x D k ab=>Y x D k (.inr (.inl ab))⟩
def tB(ts:List Ty)(gs:List Tu):Prop:=∀t∈gs,mP ts t=0
def VI(h:tB ts gs)(s):tB ts (Vj ts gs s).2:=by
 unfold Vj
 split
 .exact h
 split
 .exact h
 rename_i h0
 split
 .exact h
 split
 .exact h
 intro t A
 rcases aW.1 A with A|A
 .exact h t A
 rw [aX] at A;subst A
 simpa using h0
def Ry(h:tB ts gs)(s):tB ts (Ba gs s).2:=by
 unfold Ba
 split
 .exact h
 split
 .exact h
 exact fun t A=>h t (List.mem_of_mem_eraseIdx A)
structure UQ(w:af)(x:Nat)(mv lv gv:ag)(ts:List Ty)(gs:List Tu):Prop where
 p:PU w x mv lv gv gs
 m:∃bm tl,MC bm w mv ts tl
 l:YA ts lv w
def MQ(T:TypeId):Prop:=(T=207\/T=159\/T=110)\/LT T
variable {base size n k:Nat} {e:TypeId} {v:ag} {xs:List ag}
def oF(h:w.ownsRow base e size v n xs)(A:v.ownBlock=some k):∃m c,v=aw (some (aN k)) m c:=by
 rcases h.2 with ⟨rfl,_⟩|⟨g,cap,C,rfl,_⟩
 .cases A
 simp only [Value.ownBlock,aR] at A;subst A;exact ⟨_,_,rfl⟩
section
variable {w w':af}{x:Nat}{mv lv gv:ag}{ts:List Ty}{gs:List Tu}
def UQ.keep{S:Nat->Prop}(h:UQ w x mv lv gv ts gs)(k:bK S w w')(D:∀k,A9 x gv k->¬S k)(I:∀(k:Nat)(cs:Array ag)(T:TypeId)(f:Nat×Nat),S k->w.heap[k]? =some (Obj.cells cs T f)->¬MQ T):UQ w' x mv lv gv ts gs where
 p:=⟨k.blk h.p.blk (D _ (.inl rfl)),cH h.p.row (fun g cs f J A=>k.block g (lt_of_some A) (D g (.inr (oF h.p.row J)))),h.p.apart,h.p.most⟩
 m:=by
  obtain ⟨bm,tl,Q⟩:=h.m;exact ⟨bm,tl,Q.kt (fun g cs T f A C=>k.block g (lt_of_some A) (fun hs=>I g cs T f hs A (.inl C))) k.size⟩
 l:=by
  obtain ⟨qs,h1,h2⟩:=h.l;exact ⟨qs,h1.frame (fun g cs T f A C=>k.block g (lt_of_some A) (fun hs=>I g cs T f hs A (.inr C))),h2⟩
def UQ.below(h:UQ w x mv lv gv ts gs)(k:an w w'):UQ w' x mv lv gv ts gs:=h.keep (S:=fun _=>False) (.of_below k) (fun _ _ e=>e) (fun _ _ _ _ e=>e.elim)
end
variable {aD br:Prop}
def wZ (h:aD:=by
 first|omega|(simp;omega)|simp):aD:=h
def zP(x:Nat)(lv gv:ag)(gs:List Tu)(ac:Option Addr)(mn mc:Nat)(w:af)(h:PU w x (aw ac mn mc) lv gv gs)(th rel:ae)(hs:th.size<=1000)(aW:bS th=true)(aV:rel.size<=maxLen)(aU:bC rel=true)(aT:kj w)(aX:1<w.heap.size)(ap:ag)(c:Nat)
  (hF:(∀w',an w w'->Calls prog 94 #[.agg #[aw ac mn mc],aj (aG th 58).1,aj rel] w' fun e w''=>∃(a0:Nat)(a1:ae)(U:Option Addr)(Y V I:Nat)(b1:ae),e=bj (.tuple #[.agg #[ar a0,aj a1,aw U Y V],.agg #[ar I,aj b1,.nilIface],ap])/\an w' w'')\/(∀w',an w w'->Calls prog 94 #[.agg #[aw ac mn mc],aj (aG th 58).1,aj rel] w' fun e w''=>∃(a0:Nat)(a1:ae)(U:Option Addr)(Y V I:Nat)(b1:ae)(aY:TypeId)(rv:ag),e=bj (.tuple #[.agg #[ar a0,aj a1,aw U Y V],.agg #[ar I,aj b1,.iface aY rv],ap])/\an w' w''))
  (a4:∀w',an w w'->Calls prog 41 #[ap] w' fun e w''=>e=bj (.tuple #[ar c,ar 0])/\an w' w''):
  Calls prog 56 #[bc x,aj th,aj rel] w fun e w'=>e=bj (.tuple #[.agg #[aj (aG th 58).1,aj (aG th 58).2.1,aj rel],ar c])/\an w w':=by
 rcases hF with hF|hF
 all_goals
  have I:an w (w.alloc (AQ aj ⟨#[]⟩)):=(aA _ w).alloc aH _;have Z:=fD Mn th _ hs (aT.below I aX) aS;rw [aW] at Z;have ad:=aL.new w (vu aj ⟨#[]⟩) 102;have ax:=fun w=>ig rel w aV
  rw [aU] at ax;generalize aG th 58=X at*;obtain ⟨a,b,ok⟩:=X;simp only at Z hF ⊢;have a8:=h.blk.lt;clear aT aX hs aW aV aU;go_enter func56,ntmps56;go_wp2_with fail;refine Z.mono ?_;rintro e w1 ⟨rfl,ab⟩;have b1:=ab.alloc ab.size (cP aj a aj b);have Q:=I.trans (b1.mono I.size);have ay:=ad.below b1;have ak:=aL.new w1 #[aj a,aj b] 98;have n1:¬(w1.heap.size=w.heap.size):=by have:=(ad.below ab).lt;omega
  have n2:¬(w.heap.size=w1.heap.size):=ai;clear b1 ab Z I ad;go_wp2_with fail;refine (ax _).mono ?_;rintro e bp ⟨rfl,rfl⟩;generalize a7:w1.alloc (cP aj a aj b)=W at*;have av:=aA W.heap.size W;have al:=h.blk.below Q;obtain ⟨aZ,bn,bo⟩:=three al;have t0:W.cell? (aN w1.heap.size)=some (aj a):=ak.cell rfl;have t1:W.cell? (aC w1.heap.size 1)=some (aj b):=ak.cell rfl;go_wp2_with fail;have l1:=Q.size;have bb:=ak.lt;have a9:=ay.lt;have bg:¬(x=W.heap.size):=by have:=al.lt;omega
  have be:¬(w1.heap.size=W.heap.size):=ai;have nr:¬(w.heap.size=W.heap.size):=ai;clear al
  go_region_held3 (fun w'=>w'.cell? (aN x)=some (aw ac mn mc)/\w'.cell? (aN w1.heap.size)=some (aj a)) ((first|go_keep|refine ⟨am aZ ?_,am t0 ?_⟩<;>(with_reducible repeat (first|exact J|exact av|refine Below.drew ?_|(refine Below.setCell ?_ ?_ _;rotate_left;exact mL)|(refine Below.alloc ?_ ?_ _;rotate_left;exact mL)))))
   ((go_at_call 94;refine (hF _ (show an w _ from (cq Q))).mono ?_;(first|rintro e a5 ⟨a0,a1,U,Y,V,c0,c1,rfl,D⟩|rintro e a5 ⟨a0,a1,U,Y,V,c0,c1,aY,rv,rfl,D⟩);have J:=(Below.trans (a:=W) (B:=W.heap.size) (show an W _ from (cq av)) (D.mono wZ));have d0:=am aZ J;have d1:=am t0 J;(first|(have A:=(aL.new W #[ar 0,aj ⟨#[]⟩,aw none 0 0] 110).drew.below D;obtain ⟨az,aB,aE⟩:=three A;have aP:=A.fz;have aK:=A.lt;clear A)|(have C:=(aL.new W (eV ar 0 aj ⟨#[]⟩) 159).drew.below D;obtain ⟨aF,aI,aJ⟩:=three C;have aQ:=C.fz;have aO:=C.lt;clear C)|(have A:=((aL.new W #[ar 0,aj ⟨#[]⟩,aw none 0 0] 110).alloc (c8 ar 0 aj ⟨#[]⟩)).drew.below D;have C:=(aL.new' (W.alloc (ba ar 0 aj ⟨#[]⟩ aw none 0 0)) (eV ar 0 aj ⟨#[]⟩) 159 (W.heap.size+1) au).drew.below D;obtain ⟨az,aB,aE⟩:=three A;have aP:=A.fz;have aK:=A.lt;obtain ⟨aF,aI,aJ⟩:=three C;have aQ:=C.fz;have aO:=C.lt;clear A C)|(have C:=((aL.new W (eV ar 0 aj ⟨#[]⟩) 159).alloc (ba ar 0 aj ⟨#[]⟩ aw none 0 0)).drew.below D;have A:=(aL.new' (W.alloc (c8 ar 0 aj ⟨#[]⟩)) #[ar 0,aj ⟨#[]⟩,aw none 0 0] 110 (W.heap.size+1) au).drew.below D;obtain ⟨az,aB,aE⟩:=three A;have aP:=A.fz;have aK:=A.lt;obtain ⟨aF,aI,aJ⟩:=three C;have aQ:=C.fz;have aO:=C.lt;clear A C)|skip);have a6:=J.size;clear D))
  all_goals (
   go_wp2_with fail;refine (a4 _ (Q.trans ((show an W _ from (cq J)).mono l1))).mono ?_;rintro e bq ⟨rfl,aR⟩;have R:=Below.trans (a:=W) (B:=W.heap.size) (show an W _ from (cq J)) (aR.mono vK);have a3:=Q.trans (R.mono l1);have t4:=am t0 R;have t5:=am t1 R;have ah:=ay.below R;obtain ⟨bh,bi,bk⟩:=three ah;have bl:=ah.fz;clear aR R;go_wp2;refine bF (v:=.tuple #[.agg #[aj a,aj b,aj rel],ar c]) (cf results56 _ _ w.heap.size _ 102 _ _ rfl rfl ?_ underlying102 rfl aM) rfl ?_
   .exact ⟨_,(cZ ah),bL⟩
   .exact ⟨rfl,(cq a3)⟩)
def w8(x bm mv lv gv ts gs tl w)(h:PU w x mv lv gv gs)(A:MC bm w mv ts tl)(th rel)(hs:th.size<=1000)(U:bS th=true)(R:rel.size<=maxLen)(Q:bC rel=true)(t)(D:bX ts (aG th 58).1=some t)(r)(J:b9 t rel=some r)(I:kj w)(V:1<w.heap.size):
  Calls prog 56 #[bc x,aj th,aj rel] w fun e w'=>e=bj (.tuple #[.agg #[aj (aG th 58).1,aj (aG th 58).2.1,aj rel],ar 0])/\an w w':=by
 obtain ⟨Y,mn,mc,rfl⟩:=A.form;refine zP x lv gv gs Y mn mc w h th rel hs U R Q I V .nilIface 0 (.inr fun w' k=> ?_) (fun w' _=>nB w');obtain ⟨ab,ad,ac,rl,Z,rv,_,_,_,C⟩:=rK bm _ ts tl (aG th 58).1 rel w' (A.below k) t D r J;exact C.mono fun e w'' h=>⟨_,_,ab,ad,ac,_,_,Z,rv,h⟩
end Go.Proofs.YtlbpnlngckgcbaaGreatDoor
namespace Go.Proofs
open Go.Shelf Go.RowKit Go.Lib
variable {P:Program}{ρ:Ren}
def YtlbpnlngckgcbaaGreatDoor.cutL_one(A:Lays.n220 P ρ)(s:ByteArray)(c:UInt8)(w:World)(hs:s.size<=9223372036854775807):
  Calls P (ρ.f 220) #[aj s,aj ⟨#[c]⟩] w fun e w'=>e=bj (.tuple #[aj ⟨(Lib.cut s.data.toList [c]).1.toArray⟩,aj ⟨(Lib.cut s.data.toList [c]).2.1.toArray⟩,.bool (Lib.cut s.data.toList [c]).2.2])/\∃n,w'=w.drewN n:=by
 have ho:Lib.indexByte s.data.toList c=Lib.index s.data.toList (⟨#[c]⟩:ByteArray).data.toList:=by
  have h1:=(Lib.one s ⟨#[c]⟩ rfl).symm;have h2:((c.toNat:Nat):Int).toNat.toUInt8=c:=au;have Q:Lib.indexByte s.data.toList ((c.toNat:Nat):Int).toNat.toUInt8=Lib.indexB s ⟨#[c]⟩:=h1;rw [h2] at Q;exact Q
 have t3:=A.t3;have t4:=A.t4;have t9:=A.t9;have Y:∀w,(isAgg (ρ.t 3)).run P w=.ok false w:=run_isAgg_plain A.t3 rfl;have Z:∀w,(isAgg (ρ.t 4)).run P w=.ok false w:=run_isAgg_plain A.t4 rfl;have ab:∀w,(isAgg (ρ.t 9)).run P w=.ok false w:=run_isAgg_plain A.t9 rfl;have ad:∀args w,(callFunc (ρ.f 219) args).run P w=.ok (.enter (ρ.f 219) args) w:=enters_of A.f219 aM rfl;have ag:=A.mixed;have am:=A.z3;have ah:=A.v3;have an:=A.z4;have ak:=A.v4;have ap:=A.z9;have al:=A.v9
 rcases Lib.indexB_cases s ⟨#[c]⟩ with C|⟨i,C,R⟩
 .obtain ⟨e1,D,I⟩:=Lib.cutB_miss s ⟨#[c]⟩ C;rw [show [c]=(⟨#[c]⟩:ByteArray).data.toList from rfl,e1,D,I];have J:Lib.indexByte s.data.toList c= -1:=ho.trans C;go_enter A.f220,Body.n220_ntmps ρ;go_wp2_with (go_at_fn (ρ.f 219);refine (Any.stringslite_Index_one {A with} _ _ _).mono ?_;rintro e w' ⟨rfl,rfl⟩;rw [J]);go_ret3;exact ⟨rfl,0,rfl⟩
 .obtain ⟨e1,D,I⟩:=Lib.cutB_hit s ⟨#[c]⟩ i C;rw [show [c]=(⟨#[c]⟩:ByteArray).data.toList from rfl,e1,D,I];have J:Lib.indexByte s.data.toList c=(i:Int):=ho.trans C;have U:(⟨#[c]⟩:ByteArray).size=1:=rfl;rw [U] at R;have c1:(0:Int)<=↑i:=ai;have c2:(↑i:Int)<=↑s.size:=ai;have c3:(0:Int)<=↑i+1:=ai;have ac:(↑i+1:Int)<=↑s.size:=ai;go_enter A.f220,Body.n220_ntmps ρ;go_wp2_with (go_at_fn (ρ.f 219);refine (Any.stringslite_Index_one {A with} _ _ _).mono ?_;rintro e w' ⟨rfl,rfl⟩;rw [J])
  go_region_o
  go_wp2;go_ret3;exact ⟨rfl,1,rfl⟩
def YtlbpnlngckgcbaaGreatDoor.cutS_one(A:Lays.n145 P ρ)(s:ByteArray)(c:UInt8)(w:World)(hs:s.size<=9223372036854775807):
  Calls P (ρ.f 145) #[aj s,aj ⟨#[c]⟩] w fun e w'=>e=bj (.tuple #[aj ⟨(Lib.cut s.data.toList [c]).1.toArray⟩,aj ⟨(Lib.cut s.data.toList [c]).2.1.toArray⟩,.bool (Lib.cut s.data.toList [c]).2.2])/\∃n,w'=w.drewN n:=by
 have t4:=A.t4;have t9:=A.t9;have t59:=A.t59;have C:∀w,(isAgg (ρ.t 4)).run P w=.ok false w:=run_isAgg_plain A.t4 rfl;have I:∀w,(isAgg (ρ.t 9)).run P w=.ok false w:=run_isAgg_plain A.t9 rfl;have D:∀w,(isAgg (ρ.t 59)).run P w=.ok false w:=run_isAgg_plain A.t59 rfl;have J:∀args w,(callFunc (ρ.f 220) args).run P w=.ok (.enter (ρ.f 220) args) w:=enters_of A.f220 aM rfl;have Q:=A.mixed;have Y:=A.z4;have R:=A.v4;have ab:=A.z9;have V:=A.v9;have Z:=A.z59;have U:=A.v59;go_enter A.f145,Body.n145_ntmps ρ;go_wp2_with (go_at_fn (ρ.f 220);refine (YtlbpnlngckgcbaaGreatDoor.cutL_one {A with} _ _ _ hs).mono ?_;rintro e w' ⟨rfl,n,rfl⟩);go_ret3;exact ⟨rfl,n,rfl⟩
end Go.Proofs
namespace Go.Proofs.YtlbpnlngckgcbaaGreatDoor
open Go.RowKit Go.PlainAid Go.Proofs.Tryz
def Ws(s c w)(hs:s.size<=maxLen):Calls Tryz.prog 92 #[aj s,aj (mk [c])] w fun e w'=>e=bj (.tuple #[aj (aG s c).1,aj (aG s c).2.1,.bool (aG s c).2.2])/\an w w':=by
 refine (cutS_one Tryz.lays145 s c w (by unfold maxLen at hs;omega)).mono ?_;rintro e w' ⟨rfl,n,rfl⟩;refine ⟨?_,⟨rfl,rfl,rfl,bV _,fun _ _=>rfl⟩⟩;rw [JB s.data.toList c]
 rfl
def o8(s w)(hs:s.size<=maxLen):
  Calls Tryz.prog 55 #[aj s] w fun e w'=>e=bj (.tuple #[.agg #[aj (aG s 58).1,aj (aG s 58).2.1],.bool (bS s)])/\an w w':=by
 unfold bS;have z:=ej s 58;have D:an w (w.alloc (.cells #[aj ⟨#[]⟩,aj ⟨#[]⟩] 98)):=(aA _ w).alloc aH _;have C:=Ws s 58 (w.alloc (.cells #[aj ⟨#[]⟩,aj ⟨#[]⟩] 98)) hs;have Q:=aL.new w #[aj ⟨#[]⟩,aj ⟨#[]⟩] 98;generalize aG s 58=X at*;obtain ⟨a,b,ok⟩:=X;simp only at z C ⊢;have J:=fun w=>ig a w ai
 have Cq:=fun w=>ig b w ai
 generalize bC a=p at*;generalize bC b=q at*;go_enter Tryz.func55,Tryz.ntmps55;go_wp2_with fail;refine C.mono ?_;rintro e w1 ⟨rfl,I⟩;have B1:=D.trans (I.mono D.size);have R1:=Q.below I;have V:=R1.fz;have R:w1.cell? (aN w.heap.size)=some (aj ⟨#[]⟩):=R1.cell rfl;have U:w1.cell? (aC w.heap.size 1)=some (aj ⟨#[]⟩):=R1.cell rfl;go_wp2_with fail;refine (J _).mono ?_;rintro e Y ⟨rfl,rfl⟩
 cases p
 .skip
  exact W5
 .exact W4
variable {s:ByteArray}
def n9(h:bS s=true):s.size<=1000:=by
 unfold bS at h;simp only [bP] at h;have h1:=dn h.1;have h2:=dn h.2;have A:=hO (iS h.2);omega
end Go.Proofs.YtlbpnlngckgcbaaGreatDoor
namespace Go.Proofs.YtlbpnlngckgcbaaGreatDoor
open Go.RowKit Go.PlainAid Go.Proofs.Tryz
def xD(x bm mv lv gv ts gs tl w)(h:PU w x mv lv gv gs)(A:MC bm w mv ts tl)(th rel)(hs:th.size<=1000)(V:bS th=true)(U:rel.size<=maxLen)(R:bC rel=true)(Q:∀t,bX ts (aG th 58).1=some t->b9 t rel=none)(I:Laid w)(J:kj w)(Y:1<w.heap.size):
  Calls prog 56 #[bc x,aj th,aj rel] w fun e w'=>e=bj (.tuple #[.agg #[aj (aG th 58).1,aj (aG th 58).2.1,aj rel],ar 5])/\an w w':=by
 obtain ⟨Z,mn,mc,rfl⟩:=A.form;refine zP x lv gv gs Z mn mc w h th rel hs V U R J Y (cm 5) 5 (.inl fun w' k=> ?_) (fun w' k=>kq 5 w' (I.below k ai))
 cases C:bX ts (aG th 58).1 with
 |none=>exact (pB bm _ ts tl (aG th 58).1 rel w' (A.below k) C).mono fun e w'' h=>⟨_,_,_,_,_,_,_,h⟩
 |some t=>
  obtain ⟨ab,ad,ac,D⟩:=pC bm _ ts tl (aG th 58).1 rel w' (A.below k) t C (Q t C);exact D.mono fun e w'' h=>⟨_,_,ab,ad,ac,_,_,h⟩
def xE(x th rel w)(hs:th.size<=maxLen)(R:rel.size<=maxLen)(V:(bS th&&bC rel)=false):
  Calls prog 56 #[bc x,aj th,aj rel] w fun e w'=>e=bj (.tuple #[.agg #[aj ⟨#[]⟩,aj ⟨#[]⟩,aj ⟨#[]⟩],ar 2])/\an w w':=by
 have J:an w (w.alloc (AQ aj ⟨#[]⟩)):=(aA _ w).alloc aH _;have D:=o8 th (w.alloc (AQ aj ⟨#[]⟩)) hs;have I:=aL.new w (vu aj ⟨#[]⟩) 102;have U:=fun w=>ig rel w R
 generalize bC rel=fr at*;generalize bS th=tp at*;generalize aG th 58=X at*;obtain ⟨a,b,ok⟩:=X;simp only at D ⊢;clear hs R;go_enter func56,ntmps56;go_wp2_with fail;refine D.mono ?_;rintro e w1 ⟨rfl,C⟩;have b1:=C.alloc C.size (cP aj a aj b);have Q:=J.trans (b1.mono J.size);have A:=I.below b1;have n1:¬(w1.heap.size=w.heap.size):=by have:=(I.below C).lt;omega
 have n2:¬(w.heap.size=w1.heap.size):=ai;obtain ⟨Y,Z,ab⟩:=three A;have ac:=A.fz;clear b1 C D J I
 cases tp
 .go_wp2;refine bF (v:=.tuple #[.agg #[aj ⟨#[]⟩,aj ⟨#[]⟩,aj ⟨#[]⟩],ar 2]) (cf results56 _ _ w.heap.size _ 102 _ _ rfl rfl ?hB underlying102 rfl aM) rfl ?post
  case hB=>exact ⟨_,(cZ A),bL⟩
  case post=>exact ⟨rfl,(cq Q)⟩
 .cases fr
  .go_wp2_with fail;refine (U _).mono ?_;rintro e ad ⟨rfl,rfl⟩;go_wp2;refine bF (v:=.tuple #[.agg #[aj ⟨#[]⟩,aj ⟨#[]⟩,aj ⟨#[]⟩],ar 2]) (cf results56 _ _ w.heap.size _ 102 _ _ rfl rfl ?hB underlying102 rfl aM) rfl ?post
   case hB=>exact ⟨_,(cZ A),bL⟩
   case post=>exact ⟨rfl,(cq Q)⟩
  cases V
