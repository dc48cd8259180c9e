import Derived.Test.YtlbpnlngckgcbaaGreatDoorM07
import Derived.Test.YtlbpnlngckgcbaaGreatDoorM29
import Derived.Test.YtlbpnlngckgcbaaGreatDoorM35
import Derived.Deep.DeepAppendWide
import Derived.Deep.Slices
import Derived.ChangeArms
import Derived.SizedLaws
import Derived.Lib.LaidTab
import Derived.Shelf.Vars
import Derived.ChangeSame
import Derived.DataShut
import Derived.OpenShut
import Derived.ChangeVars
import Derived.ChangeSlices
import Derived.Carry
import Derived.LaidLaws
import Derived.LaidHandle
import Derived.LaidMore
import Derived.LaidSub
import Derived.Test.YtlbpnlngckgcbaaGreatDoorRows
import Derived.HandedShaped
import Derived.JoinedOf
import Derived.Stop.Joined
set_option linter.all false
set_option maxHeartbeats 4000000
set_option maxRecDepth 100000
namespace Go.Proofs.YtlbpnlngckgcbaaGreatDoor
open Go.RowKit Go.PlainAid Go.Proofs.Tryz
variable {aD br:Prop}
def EE (h:aD:=by
 unfold UTy;decide):aD:=h
def RH (h:aD:=by
 rw [e] at hr;obtain ⟨C,A,_⟩:=dF hr;exact ⟨_,_,A,.inr rfl⟩):aD:=h
structure ew where
 x:Nat
 y:Nat
 bm:Nat
 mv:ag
 lv:ag
 gv:ag
 tv:ag
 ts:List Ty
 gs:List Tu
 ss:List ae
 I:Nat->Prop
structure Nx(w:af)(x:Nat)(mv lv gv:ag)(ts:List Ty)(gs:List Tu):Prop where
 p:PU w x mv lv gv gs
 m:∃bm tl,MC bm w mv ts tl
 l:YA ts lv w
structure Mo(w:af)(y bm:Nat)(tv:ag)(ts:List Ty)(ss:List ae)(I:Nat->Prop):Prop where
 d:DU w y (.pointer (some (aC bm 5))) tv ss
 r:XS ts I bm w
 il:∀k,I k->k<w.heap.size
 most:ss.length<=24
structure UR(w:af)(u:ew):Prop where
 up:Nx w u.x u.mv u.lv u.gv u.ts u.gs
 ud:Mo w u.y u.bm u.tv u.ts u.ss u.I
 both:sy u.gs u.ss
 lets:tB u.ts u.gs
def US(u:ew)(k:Nat):Prop:=A9 u.x u.gv k\/HY u.y u.tv k
def UTy(T:TypeId):Prop:=T=117\/T=123\/T=262\/T=264
def MD(T:TypeId):Prop:=(T=207\/T=159\/T=110)\/LT T\/RT T
variable {w:af} {base size n k:Nat} {e:TypeId} {v:ag} {xs:List ag}
def EF(h:w.ownsRow base e size v n xs)(A:v.ownBlock=some k):∃m c,v=aw (some (aN k)) m c:=by
 rcases h.2 with ⟨rfl,_⟩|⟨g,cap,C,rfl,_⟩
 .cases A
 simp only [Value.ownBlock,aR] at A;subst A;exact ⟨_,_,rfl⟩
variable {mv lv gv:ag} {ts:List Ty} {gs:List Tu}
def Nx.ty{x}(h:Nx w x mv lv gv ts gs)(D:A9 x gv k):∃cs T,aL w k cs T/\(T=117\/T=123):=by
 rcases D with rfl|⟨n,c,e⟩
 .exact ⟨_,_,h.p.blk,.inl rfl⟩
 have hr:=h.p.row;exact RH
variable {bm:Nat} {tv:ag} {ss:List ae}
def Mo.ty{y I}(h:Mo w y bm tv ts ss I)(D:HY y tv k):∃cs T,aL w k cs T/\(T=262\/T=264):=by
 rcases D with rfl|⟨n,c,e⟩
 .exact ⟨_,_,h.d.blk,.inl rfl⟩
 have hr:=h.d.row;exact RH
variable {u:ew}
def UR.ty(h:UR w u)(A:US u k):∃cs T,aL w k cs T/\UTy T:=by
 rcases A with A|A
 .obtain ⟨cs,T,C,D⟩:=h.up.ty A;exact ⟨cs,T,C,D.elim .inl (fun e=> .inr (.inl e))⟩
 obtain ⟨cs,T,C,D⟩:=h.ud.ty A;exact ⟨cs,T,C,D.elim (fun e=> .inr (.inr (.inl e))) (fun e=> .inr (.inr (.inr e)))⟩
def UR.lt(h:UR w u)(C:US u k):k<w.heap.size:=by
 obtain ⟨cs,T,A,_⟩:=h.ty C;exact A.lt
variable {cs:Array ag} {T:TypeId}
def UR.nty(h:UR w u){f:Nat×Nat}(D:US u k)(C:w.heap[k]? =some (.cells cs T f)):UTy T:=by
 obtain ⟨J,T',A,I⟩:=h.ty D;unfold aL at A;rw [A] at C
 cases C
 exact I
variable {w':af}
def Nx.keep{S:Nat->Prop}{x:Nat}(h:Nx w x mv lv gv ts gs)(k:bK S w w')(D:∀k,A9 x gv k->¬S k)(I:∀(k:Nat)(cs:Array ag)(T:TypeId)(f:Nat×Nat),S k->w.heap[k]? =some (Obj.cells cs T f)->¬((T=207\/T=159\/T=110)\/LT T)):Nx w' x mv lv gv ts gs where
 p:=⟨k.blk h.p.blk (D _ (.inl rfl)),cH h.p.row (fun g cs f J A=>k.block g (lt_of_some A) (D g (.inr (EF h.p.row J)))),h.p.apart,h.p.most⟩
 m:=by
  obtain ⟨bm,tl,Q⟩:=h.m;exact ⟨bm,tl,Q.kt (fun g cs T f A C=>k.block g (lt_of_some A) (fun hs=>I g cs T f hs A (.inl C))) k.size⟩
 l:=by
  obtain ⟨qs,h1,h2⟩:=h.l;exact ⟨qs,h1.frame (fun g cs T f A C=>k.block g (lt_of_some A) (fun hs=>I g cs T f hs A (.inr C))),h2⟩
def Mo.keep{S:Nat->Prop}{y:Nat}{I:Nat->Prop}(h:Mo w y bm tv ts ss I)(k:bK S w w')(C:∀k,HY y tv k->¬S k)(D:∀(k:Nat)(cs:Array ag)(T:TypeId)(f:Nat×Nat),S k->w.heap[k]? =some (Obj.cells cs T f)->RT T->T=3/\¬I k):Mo w' y bm tv ts ss I where
 d:=⟨k.blk h.d.blk (C _ (.inl rfl)),cH h.d.row (fun g cs f J A=>k.block g (lt_of_some A) (C g (.inr (EF h.d.row J)))),h.d.apart,h.d.most⟩
 r:=h.r.kx (fun g cs T f A Q hi=>k.block g (lt_of_some A) (fun hs=>by
  obtain ⟨e,hn⟩:=D g cs T f hs A Q;exact hn (hi e)))
 il:=fun i hi=>cM (h.il i hi) k.size
 most:=h.most
def UR.keep{S:Nat->Prop}(h:UR w u)(k:bK S w w')(D:∀k,US u k->¬S k)(J:∀(k:Nat)(cs:Array ag)(T:TypeId)(f:Nat×Nat),S k->w.heap[k]? =some (Obj.cells cs T f)->MD T->T=3/\¬u.I k):UR w' u where
 up:=h.up.keep k (fun i hi=>D i (.inl hi)) (fun i cs T f hs C A=>by
  have e:=(J i cs T f hs C (A.elim .inl (fun h=> .inr (.inl h)))).1;subst e;exact absurd A zh)
 ud:=h.ud.keep k (fun i hi=>D i (.inr hi)) (fun i cs T f hs C A=>J i cs T f hs C (.inr (.inr A)))
 both:=h.both
 lets:=h.lets
def UR.below(h:UR w u)(k:an w w'):UR w' u:=h.keep (S:=fun _=>False) (.of_below k) (fun _ _ e=>e) (fun _ _ _ _ e=>e.elim)
def eC(w:af)(v:ag)(t:ae):Prop:=v=aw none 0 0\/∃g n c cs f,v=aw (some (aN g)) n c/\w.heap[g]? =some (Obj.cells cs 9 f)/\n<=1000/\∀i,i<n->cs[i]? =some (aj t)
def eC.frame{t}(h:eC w v t)(k:∀(g:Nat)(cs:Array ag)(f:Nat×Nat),w.heap[g]? =some (Obj.cells cs 9 f)->w'.heap[g]? =w.heap[g]?):eC w' v t:=by
 rcases h with h|⟨g,n,c,cs,f,h1,h2,A⟩
 .exact .inl h
 exact .inr ⟨g,n,c,cs,f,h1,(k g cs f h2).trans h2,A⟩
def VK(u:ew):List ag:=[bc u.x,bc u.y]
structure WS(base:Nat)(w:af)(b:Nat)(lv hT gR:ag)(us:List ew)(ms:List (ag×Nat)):Prop where
 blk:aL w b #[lv,hT,gR] 31
 low:base<=b
 l:w.ownsRow base 86 2 lv us.length (us.flatMap VK)
 ls:w.ownsRow base 22 1 hT ms.length (ms.map Prod.fst)
 ks:w.ownsRow base 3 1 gR ms.length (ms.map fun m=>ar m.2)
 ur:∀u∈us,UR w u
 lowu:∀u∈us,∀k,US u k->base<=k
 ap:us.Pairwise (fun u v=>∀k,US u k->¬US v k)
 apk:∀u∈us,∀k,gR.ownBlock=some k->¬u.I k
 mrk:∀m∈ms,eC w m.1 (nJ m.2)
 mks:∀m∈ms,m.2<=ms.length
variable {b:Nat} {hT gR:ag} {us:List ew}
def WS.below{ms}(h:WS base w b lv hT gR us ms)(k:an w w'):WS base w' b lv hT gR us ms:=
 ⟨h.blk.below k,h.low,aB h.l k,aB h.ls k,aB h.ks k,fun u D=>(h.ur u D).below k,h.lowu,h.ap,h.apk,fun m C=>(h.mrk m C).frame (fun g cs f A=>k.block g (lt_of_some A)),h.mks⟩
variable {i:Nat}
def WS.upd{ms}(h:WS base w b lv hT gR us ms){u'}(hi:us[i]? =some u)(k:bK (US u) w w')(au:UR w' u')(av:u'.x=u.x)(aw:u'.y=u.y)(ad:∀k,US u' k->US u k\/w.heap.size<=k)(ah:∀k,gR.ownBlock=some k->¬u'.I k):
  WS base w' b lv hT gR (us.set i u') ms/\Below base w w':=by
 have Q:i<us.length:=by
  rcases fE i us.length with h|h
  .exact h
  rw [jA h] at hi;cases hi
 have U:us[i]=u:=by rw [aI Q] at hi;exact gK hi
 have Z:u∈us:=bG hi;have ae:=h.ur u Z;have ak:base<=w.heap.size:=by have:=h.low;have:=h.blk.lt;omega
 have key:∀(g:Nat)(cs:Array ag)(T:TypeId)(f:Nat×Nat),w.heap[g]? =some (Obj.cells cs T f)->¬UTy T->w'.heap[g]? =w.heap[g]? :=fun g cs T f A Y=>k.block g (lt_of_some A) (fun hs=>Y (ae.nty hs A))
 have R:=iT.1 h.ap;have al:(us.set i u').flatMap VK=us.flatMap VK:=by
  have e:us.set i u'=us.take i++u'::us.drop (i+1):=by rw [List.set_eq_take_append_cons_drop,if_pos Q]
  have af:us=us.take i++u::us.drop (i+1):=by rw [<-U,List.getElem_cons_drop,po]
  rw [e]
  conv=>rhs;rw [af]
  simp [VK,av,aw]
 have ar:∀j (C:j<us.length),i≠j->UR w' us[j]:=fun j C V=>(h.ur _ (bu C)).keep k (fun q D hs=>by
   rcases vR V with J|J
   .exact R i j Q C J q (by rw [U];exact hs) D
   .exact R j i C Q J q D (by rw [U];exact hs))
  (fun q cs T f hs A Y=>absurd Y (by
   have:=ae.nty hs A
   rcases this with rfl|rfl|rfl|rfl<;>(unfold MD LT RT;decide)))
 refine ⟨⟨(key b _ _ _ h.blk EE).trans h.blk,h.low,?_,az h.ls (fun g cs f _ A=>key g cs _ f A EE),az h.ks (fun g cs f _ A=>key g cs _ f A EE),fun v hv=> ?_,fun v hv=> ?_,?_,fun v hv=> ?_,fun m an=>(h.mrk m an).frame (fun g cs f A=>key g cs _ f A EE),h.mks⟩,k.below ak (fun g am=>h.lowu u Z g am)⟩
 .rw [al,fU];exact az h.l (fun g cs f _ A=>key g cs _ f A EE)
 .obtain ⟨j,C,rfl⟩:=dB hv;rw [fU] at C
  by_cases e:i=j
  .subst e;rw [jC];exact au
  rw [jJ e];exact ar j C e
 .rcases r8 hv with hv|rfl
  .exact h.lowu v hv
  intro q D
  rcases ad q D with e|e
  .exact h.lowu u Z q e
  omega
 .refine iT.2 (fun a c ha hc aj q D e=> ?_);rw [fU] at ha hc;have old:∀j (C:j<us.length),i≠j->US us[j] q->US u' q->False:=fun j C V h1 h2=>by
   rcases ad q h2 with e|e
   .rcases vR V with J|J
    .exact R i j Q C J q (by rw [U];exact e) h1
    exact R j i C Q J q h1 (by rw [U];exact e)
   have:=(h.ur _ (bu C)).lt h1;omega
  by_cases ab:i=a
  .subst ab;rw [jC] at D;rw [jJ ai] at e;exact old c hc ai e D
  rw [jJ ab] at D
  by_cases ac:i=c
  .subst ac;rw [jC] at e;exact old a ha ai D e
  rw [jJ ac] at e;exact R a c ha hc aj q D e
 .rcases r8 hv with hv|rfl
  .exact h.apk v hv
  exact ah
def YO(u:ew)(w:af)(c:Nat)(ts:List Ty)(gs:List Tu)(e:Ending)(w':af):Prop:=∃mv lv gv,e=bj (ar c)/\Nx w' u.x mv lv gv ts gs/\bK (A9 u.x u.gv) w w'/\∀k,A9 u.x gv k->A9 u.x u.gv k\/w.heap.size<=k
def YP(u:ew)(w:af)(c:Nat)(ts:List Ty)(ss:List ae)(e:Ending)(w':af):Prop:=∃bm tv I,e=bj (ar c)/\Mo w' u.y bm tv ts ss I/\bK (HY u.y u.tv) w w'/\(∀k,HY u.y tv k->HY u.y u.tv k\/w.heap.size<=k)/\∀k,I k->u.I k\/w.heap.size<=k
def Op2(f1 f2:Nat)(u:ew)(s:ae):Prop:=∀w,UR w u->Laid w->kj w->1<w.heap.size->∃c ts gs ss,(sy gs ss/\tB ts gs)/\Calls prog f1 #[bc u.x,aj s] w (YO u w c ts gs)/\∀w',Mo w' u.y u.bm u.tv u.ts u.ss u.I->Calls prog f2 #[bc u.y,aj s] w' (YP u w' c ts ss)
variable {c:Nat}
def Mp(h:Nx w u.x u.mv u.lv u.gv u.ts u.gs)(k:an w w'):YO u w c u.ts u.gs (bj (ar c)) w':=⟨_,_,_,rfl,h.keep (S:=fun _=>False) (.of_below k) (fun _ _ e=>e) (fun _ _ _ _ e=>e.elim),.of_below k,fun _ h=> .inl h⟩
def Mq(h:Mo w u.y u.bm u.tv u.ts u.ss u.I)(k:an w w'):YP u w c u.ts u.ss (bj (ar c)) w':=⟨_,_,_,rfl,h.keep (S:=fun _=>False) (.of_below k) (fun _ _ e=>e) (fun _ _ _ _ e=>e.elim),.of_below k,fun _ h=> .inl h,fun _ h=> .inl h⟩
def XS.fin{I}(h:XS ts I bm w):XS ts (fun k=>I k/\k<w.heap.size) bm w:=by
 obtain ⟨kv,rv,pv,kl,rl,pl,l,C,h1,h2,D,J⟩:=h;exact ⟨kv,rv,pv,kl,rl,pl,l,C,h1,h2,D,fun x A i hi=>⟨J x A i hi,((h1.dm.pt.rep x A).p.lt i hi).2⟩⟩
def EG:sy [] []:=⟨rfl,fun _ h=>by cases h⟩
def load2(u s):Op2 27 83 u s:=by
 intro w R U ad h1
 cases J:dy s with
 |error er=>
  obtain ⟨o,c⟩:=er;have hc:=(oz J w).1;refine ⟨c,u.ts,u.gs,u.ss,⟨R.both,R.lets⟩,(zf u.x s w o c J hc U).mono fun e w' ⟨D,A⟩=> ?_,fun w' Q=> ?_⟩
  .rw [D];exact Mp R.up A
  obtain ⟨_,p,C⟩:=oz J w';refine (LV u.y s w' _ _ _ Q.d c p hc C).mono fun e w'' ⟨D,A⟩=> ?_
  rw [D];exact Mq Q A
 |ok ts=>
  refine ⟨0,ts,[],[],⟨EG,fun _ h=>by cases h⟩,(DV YA Qa vX u.x s w _ _ _ R.up.p.blk ts J U).mono fun e w' ⟨mv,lv,bm,tl,D,ab,Z,Y,A⟩=> ?_,fun w' Q=> ?_⟩
  .exact ⟨mv,lv,_,D,⟨ab,⟨bm,tl,Z⟩,Y⟩,A.mono (fun k e=> .inl e),fun k I=>by
    rcases I with e|⟨n,c,e⟩
    .exact .inl (.inl e)
    cases e⟩
  refine (Qb u.y s w' _ _ _ Q.d (XS ts (fun k=>w'.heap.size<=k)) (fun bm w w' h k=>h.kd k) (zE J w')).mono fun e w'' ⟨bm,D,V,ac,A⟩=> ?_
  exact ⟨bm,_,_,D,⟨V,ac.fin,fun k I=>I.2,au⟩,A.mono (fun k e=> .inl e),(fun k I=>by
   rcases I with e|⟨n,c,e⟩
   .exact .inl (.inl e)
   cases e),fun k I=> .inr I.1⟩
def KD.of_dus{y I}(h:Mo w y bm tv ts ss I)(k:bK (HY y tv) w w'):KD w w':=KD.of_butS k (fun g cs T f hs C J=>by
 obtain ⟨Q,T',A,D⟩:=h.ty hs;unfold aL at A;rw [A] at C
 cases C
 rcases D with rfl|rfl<;>exact absurd J DY)
def Ka{r:Nat×List Tu}{e}(I:UR w u)(h:kr u.x u.mv u.lv u.gv w r e w'):YO u w r.1 u.ts r.2 e w':=by
 obtain ⟨Q,U,Z,D,V⟩:=h;have key:∀(k:Nat)(cs:Array ag)(T:TypeId)(f:Nat×Nat),A9 u.x u.gv k->w.heap[k]? =some (Obj.cells cs T f)->¬((T=207\/T=159\/T=110)\/LT T):=fun k cs T f hs A C=>by
  obtain ⟨ab,T',J,R⟩:=I.up.ty hs;unfold aL at J;rw [J] at A
  cases A
  rcases R with rfl|rfl<;>exact absurd C zh
 refine ⟨_,_,Q,U,⟨Z,?_,?_⟩,D,V⟩
 .obtain ⟨bm,tl,Y⟩:=I.up.m;exact ⟨bm,tl,Y.kt (fun g cs T f A C=>D.block g (lt_of_some A) (fun hs=>key g cs T f hs A (.inl C))) D.size⟩
 obtain ⟨qs,h1,h2⟩:=I.up.l;exact ⟨qs,h1.frame (fun g cs T f A C=>D.block g (lt_of_some A) (fun hs=>key g cs T f hs A (.inr C))),h2⟩
def Kb{r:Nat×List ae}{e}(C:Mo w u.y u.bm u.tv u.ts u.ss u.I)(h:iX u.y (.pointer (some (aC u.bm 5))) u.tv w r e w')(R:r.2.length<=24):YP u w r.1 u.ts r.2 e w':=by
 obtain ⟨V,J,U,A,Q⟩:=h;exact ⟨_,V,u.I,J,⟨U,C.r.kd (KD.of_dus C A),fun k D=>cM (C.il k D) A.size,R⟩,A,Q,fun k D=> .inl D⟩
variable {rl:List RV} {s:ae}
def VL{dN}(h:ss.length<=24):(Uh rl dN ss s).2.length<=24:=by
 unfold Uh
 split
 .exact h
 split
 .exact h
 split
 .exact h
 split
 .exact h
 split
 .exact h
 simp;omega
def RI(h:ss.length<=24):(Er ss s).2.length<=24:=by
 unfold Er
 split
 .exact h
 split
 .exact h
 have:=List.length_eraseIdx_le ss (ku ss s).toNat;simp only
 first|omega|(rw [AP] at this;simp at*;omega)
def RJ(h:sy gs ss):gs.length=ss.length:=by rw [h.eq,bO]
def YQ(u s)(hs:s.size<=maxLen):Op2 28 84 u s:=by
 intro w A ad af h1;obtain ⟨bm,tl,ag⟩:=A.up.m;obtain ⟨kv,rv,pv,kl,rl,pl,l,J,aw,ah,av,_⟩:=A.ud.r;have hl:=RJ A.both;have ak:=A.ud.most;obtain ⟨e1,C⟩:=wG ah A.both s;refine ⟨(Vj u.ts u.gs s).1,u.ts,(Vj u.ts u.gs s).2,(Uh rl J u.ss s).2,⟨C,VI A.lets s⟩,(GX Mn u.x bm s w _ _ _ _ u.ts tl A.up.p ag af h1 ad ai).mono fun e w' h=>Ka A h,fun w' D=> ?_⟩;obtain ⟨an,ar,pv',am,U,kM,ap,Q,ac,aj,ab,_⟩:=D.r;obtain ⟨Z,R⟩:=wG aj A.both s;have al:(Uh rl J u.ss s).2=(Uh U Q u.ss s).2:=by
  have V:=C.eq;have Y:=R.eq;have inj:∀(l m:List ae),(∀y∈l,dK y=true)->(∀y∈m,dK y=true)->l.map tR=m.map tR->l=m:=by
   intro l
   induction l with
   |nil=>intro m _ _ h;cases m with
    |nil=>rfl
    |cons _ _=>simp at h
   |cons x l ih=>intro m h1 h2 h;cases m with
    |nil=>simp at h
    |cons y m=>
     simp only [bZ,kT] at h;rw [J3 (h1 x au) (h2 y au) h.1,ih m (fun z I=>h1 z (by simp [I])) (fun z I=>h2 z (by simp [I])) h.2]
  exact inj _ _ C.ok R.ok (V.symm.trans Y)
 rw [al,Z];exact (H0 u.y u.bm s w' an ar pv' _ am U kM ap u.ss Q D.d ac.dm ab.1 hs ai).mono fun e w'' h=>Kb D h (VL ak)
def VM(u s)(hs:s.size<=maxLen):Op2 35 85 u s:=by
 intro w A J I h1;obtain ⟨e1,D⟩:=Rq A.both s;refine ⟨(Ba u.gs s).1,u.ts,(Ba u.gs s).2,(Er u.ss s).2,⟨D,Ry A.lets s⟩,(DA Mn u.x s w _ _ _ _ A.up.p I h1).mono fun e w' h=>Ka A h,fun w' C=> ?_⟩;rw [e1];exact (Es u.y s w' _ _ _ C.d hs).mono fun e w'' h=>Kb C h (RI A.ud.most)
abbrev gq(a0:ag)(a1:ag):Obj:=.cells #[a0,a1] 86
abbrev eZ(a0:ag)(a1:ag)(a2:ag)(a3:ag)(a4:ag):Obj:=.cells #[a0,a1,a2,a3,a4] 34
def EH (h:aD:=by
 have:=bw.size;omega):aD:=h
def RK (h:aD:=by
 go_enter func46,ntmps46;go_wp2_with fail;refine C1'.mono ?_;rintro e w1 ⟨af,ae,ad,rfl,Z,A,U⟩;have C:=CD' w1 (EI hu A);have I:=PB.butS A hu ay;have J:=SB.butS A hu ay;obtain ⟨ag,p1⟩:=fZ I;have ah:w1.cell? (aC (w.heap.size+1) 2)=some (aj s):=J.cell rfl;go_wp2_with fail;refine C.mono ?_;rintro e ak ⟨ac,ai,ab,rfl,R,Q,V,Y⟩;have D:=RL h hi hu bw hbo Z A U R Q V Y;go_wp2;go_ret;exact ⟨rfl,D⟩):aD:=h
variable {w1:af}
def EI(C:UR w u)(R:bK (A9 u.x u.gv) w w1):Mo w1 u.y u.bm u.tv u.ts u.ss u.I:=C.ud.keep R (fun k U hs=>by
  obtain ⟨cs,T,h1,h2⟩:=C.ud.ty U;obtain ⟨Q,T',A,D⟩:=C.up.ty hs;unfold aL at h1 A;rw [h1] at A
  cases A
  rcases h2 with rfl|rfl<;>exact absurd D ay)
 (fun k cs T f hs J V=>by
  obtain ⟨Q,T',A,D⟩:=C.up.ty hs;unfold aL at A;rw [A] at J
  cases J
  rcases D with rfl|rfl<;>exact absurd V DY)
variable {g:Nat}
def aL.butS(h:aL w g cs T)(D:bK (A9 u.x u.gv) w w1)(J:UR w u)(I:¬(T=117\/T=123)):aL w1 g cs T:=D.blk h (fun hs=>by
 obtain ⟨Q,T',A,C⟩:=J.up.ty hs;unfold aL at h A;rw [h] at A
 cases A
 exact I C)
def RN(base b:Nat)(lv hT gR:ag)(us:List ew)(h:List (ag×Nat))(i:Nat)(w w':af):Prop:=(∃u',WS base w' b lv hT gR (us.set i u') h)/\Below base w w'
variable {W:af}
def RL{ms w2}(h:WS base w b lv hT gR us ms)(hi:us[i]? =some u)(ap:UR W u)(R:an w W)(V:sy gs ss/\tB ts gs){mv1 lv1 gv1}(ab:Nx w1 u.x mv1 lv1 gv1 ts gs)(Q:bK (A9 u.x u.gv) W w1)(ah:∀k,A9 u.x gv1 k->A9 u.x u.gv k\/W.heap.size<=k){bm2 tv2 I2}(ag:Mo w2 u.y bm2 tv2 ts ss I2)(U:bK (HY u.y u.tv) w1 w2)(aj:∀k,HY u.y tv2 k->HY u.y u.tv k\/w1.heap.size<=k)(ak:∀k,I2 k->u.I k\/w1.heap.size<=k):RN base b lv hT gR us ms i w w2:=by
 have Y:=EI ap Q;have av:=Q.size;have al:Nx w2 u.x mv1 lv1 gv1 ts gs:=ab.keep U (fun k A hs=>by
   obtain ⟨cs,T,h1,h2⟩:=ab.ty A;obtain ⟨ac,T',C,D⟩:=Y.ty hs;unfold aL at h1 C;rw [h1] at C
   cases C
   rcases h2 with rfl|rfl<;>exact absurd D ay)
  (fun k cs T f hs Z am=>by
   obtain ⟨ac,T',C,D⟩:=Y.ty hs;unfold aL at C;rw [C] at Z
   cases Z
   rcases D with rfl|rfl<;>exact absurd am zh)
 have J:=h.below R;have ae:bK (US u) W w2:=(Q.mono (fun k e=> .inl e)).trans (U.mono (fun k e=> .inr e));obtain ⟨ar,au⟩:=J.upd (u':=⟨u.x,u.y,bm2,mv1,lv1,gv1,tv2,ts,gs,ss,I2⟩) hi ae ⟨al,ag,V.1,V.2⟩ rfl rfl (fun k A=>by
  rcases A with A|A
  .rcases ah k A with e|e
   .exact .inl (.inl e)
   exact .inr e
  .rcases aj k A with e|e
   .exact .inl (.inr e)
   exact .inr ai) (fun k A ad=>by
  rcases ak k ad with e|e
  .exact J.apk u (bG hi) k A e
  have:=(J.ks.lt k A).2;omega)
 have af:base<=w.heap.size:=by have:=h.low;have:=h.blk.lt;omega
 exact ⟨⟨_,ar⟩,(R.mono af).trans au⟩
def EJ{ms}(h:WS base w b lv hT gR us ms)(hi:us[i]? =some u)(kd ee s rr ww)(hs:s.size<=maxLen)(al:Laid w)(am:kj w)(h1:1<w.heap.size):
  Calls prog 46 #[.agg #[bc u.x,bc u.y],.agg #[ar kd,ar ee,aj s,aj rr,aj ww]] w fun e w'=>e=bj (.bool true)/\RN base b lv hT gR us ms i w w':=by
 have bw:an w ((w.alloc (gq bc u.x bc u.y)).alloc (eZ ar kd ar ee aj s aj rr aj ww)):=((aA _ w).alloc aH _).alloc au _;have hu:=(h.ur u (bG hi)).below bw;have aw:=load2 u s ((w.alloc (gq bc u.x bc u.y)).alloc (eZ ar kd ar ee aj s aj rr aj ww)) hu (al.below bw ai) (am.below bw ai) EH;have ax:=YQ u s hs ((w.alloc (gq bc u.x bc u.y)).alloc (eZ ar kd ar ee aj s aj rr aj ww)) hu (al.below bw ai) (am.below bw ai) EH;have av:=VM u s hs ((w.alloc (gq bc u.x bc u.y)).alloc (eZ ar kd ar ee aj s aj rr aj ww)) hu (al.below bw ai) (am.below bw ai) EH;have PB:=(aL.new w #[bc u.x,bc u.y] 86).alloc (eZ ar kd ar ee aj s aj rr aj ww);have SB:=aL.new' (w.alloc (gq bc u.x bc u.y)) #[ar kd,ar ee,aj s,aj rr,aj ww] 34 (w.heap.size+1) au
 by_cases k3:kd=3
 .obtain ⟨c,ts,gs,ss,hbo,C1',CD'⟩:=aE aw;subst k3;exact RK
 .have az:(kd==3)=false:=by simpa using k3
  by_cases ap:kd=4
  .obtain ⟨c,ts,gs,ss,hbo,C1',CD'⟩:=aE ax;subst ap;exact RK
  have aB:(kd==4)=false:=by simpa using ap
  obtain ⟨c,ts,gs,ss,hbo,C1',CD'⟩:=aE av;exact RK
def BQ(w w':af)(v:ag)(e:TypeId)(A:List ag):Prop:=∀(k:Nat)(cs:Array ag)(f:Nat×Nat),v.ownBlock=some k->w.heap[k]? =some (Obj.cells cs e f)->∃h,w'.heap[k]? =some (Obj.cells h e f)/\∀j:Nat,h[j]? =cs[j]? \/∃u∈A,h[j]? =some u
variable {P:Program}
def wN(w:af)(t ty:TypeId)(base:Nat)(e:TypeId)(i:TypeInfo)(z:ag)(bytes:Nat)(ah:P.underlying t=some (.slice e))(hi:P.info? e=some i)(ar:i.zero=some z)
  (R:i.size=1) (al:i.bytes=bytes) (aM:z.cells.size=1)
  (v:ag) (n:Nat) (D:List ag) (J:w.ownsRow base e 1 v n D)
  (U:Addr) (m c:Nat) (A:List ag) (Y:A.length=m*1) (ad:∀j u,A[j]? =some u->w.cell? (U.add j)=some u) (h1:∀u∈A,u.oneCell'=true)
  (aF:0<m) (ak:n+m<=maxLen) (am:(n+m)*bytes<=140737488355328) (hbase:base<=w.heap.size) (H:Nat) (aA:w.heap.size=H):
  ∃g cap w',(Builtin.append_ #[t,t] ty #[v,aw (some U) m c]).run P w=.ok (aw (some (aN g)) (n+m) cap) w'/\
   w'.ownsRow base e 1 (aw (some (aN g)) (n+m) cap) (n+m) (D++A)/\w.grownBy w' v.ownBlock/\(v.ownBlock=some g\/g=H)/\g<w'.heap.size/\w'.ownsRow base e 1 v n D/\
   BQ w w' v e A:=by
 obtain ⟨g5,bf,w5,ae,aP,av,au,aO⟩:=run_append_lies (P:=P) w t ty base e i z 1 bytes ah hi ar R al aM ay v n D J U m c A Y ad h1 aF ak am hbase H aA;refine ⟨g5,bf,w5,ae,aP,av,au,aO,?_⟩
 rcases J.2 with ⟨rfl,rfl⟩|⟨g,cap,C,rfl,aB,ac,aG,aC,an,aJ⟩
 .have aL:D=[]:=iF (by simpa using J.1);subst aL;exact ⟨bQ,fun k cs f Q=>by cases Q⟩
 .by_cases aH:n+m<=cap
  .have aE:n*i.size+A.length<=C.size:=by rw [Y,an,R];omega
   have ab:=run_append_room (P:=P) w t ty e i ah hi g n cap C ac U m c A (by rw [R];exact Y) ad h1 aH aE;have V:=ab.symm.trans ae;simp only [Result.ok.injEq,aK] at V;obtain ⟨_,rfl⟩:=V;rw [R] at ab ⊢;have I:(w.setRow g (C.toList.take (n*1)++A++C.toList.drop (n*1+A.length)).toArray).heap[g]? =some (.cells (C.toList.take (n*1)++A++C.toList.drop (n*1+A.length)).toArray e (0,0)):=setRow_heap w g C _ e _ ac;have Z:(C.toList.take (n*1)).length=n:=by rw [dZ,rh,an];omega
   refine ⟨⟨J.1,.inr ⟨g,cap,_,rfl,aB,I,aG,aC,?_,?_⟩⟩,fun k cs f Q ap=> ?_⟩
   .simp only [rT,bg,dZ,m2,Array.length_toList];omega
   .rw [<-aJ,ct];exact rP (by rw [Z];omega)
   simp only [Value.ownBlock,aR] at Q;subst Q;rw [ac] at ap
   cases ap
   refine ⟨_,I,fun j=> ?_⟩
   rcases fE j n with h|h
   .left;rw [List.getElem?_toArray,ct,nu ai,F0 ai];simp
   rcases fE j (n+A.length) with ax|ax
   .right;rw [List.getElem?_toArray,ct,nv ai,Z,nu ai,aI ai];exact ⟨_,bu _,rfl⟩
   left;rw [List.getElem?_toArray,nv (by rw [bg,Z];omega),ru];rw [bg,Z];rw [show n*1+A.length+(j-(n+A.length))=j by omega];simp
  have holds:∀j u,D[j]? =some u->w.cell? ((⟨g,0,none⟩:Addr).add j)=some u:=J.cells (g:=g) rfl;have ab:=run_append_grow (P:=P) w t ty e i z ah hi ar ⟨g,0,none⟩ n cap D (by rw [R];exact J.1) holds U m c A (by rw [R];exact Y) ad ai (by simp only [maxLen] at ak;omega) (growslice_fits ai (by rw [al];exact am));have V:=ab.symm.trans ae;simp only [Result.ok.injEq,aK] at V;obtain ⟨_,rfl⟩:=V;have aj:∀k,k<w.heap.size->(w.drew.alloc (.cells (D.toArray++A.toArray++Builtin.zeroCells z.cells (grownCap w (n+m) cap e-(n+m))) e)).heap[k]? =w.heap[k]? :=fun k Q=>heap_alloc_old w.drew _ Q
  refine ⟨az J (fun k cs f _ I=>aj k (lt_of_some I)),fun k cs f _ I=>⟨cs,(aj k (lt_of_some I)).trans I,fun j=> .inl rfl⟩⟩
variable {rest:List Oper}
def ir(w:af){I:Array Oper}{o:Oper}{a:Act}{Q:Exit->Act->af->Prop}(ah:o.guard=none)(s x:Operand)(t:TypeId)
  (ho:o.op=.call {callee:=.builtin .append,args:=#[s,x],argTypes:=#[t,t]})
  (base:Nat) (e:TypeId) (i:TypeInfo) (z:ag) (bytes:Nat) (an:P.underlying t=some (.slice e)) (hi:P.info? e=some i) (ap:i.zero=some z)
  (am:i.size=1) (ad:i.bytes=bytes) (ar:z.cells.size=1)
  (v:ag) (n:Nat) (C:List ag) (hs:a.eval s=v) (al:w.ownsRow base e 1 v n C)
  (D:Addr) (m c:Nat) (A:List ag) (hx:a.eval x=aw (some D) m c) (ai:A.length=m*1) (ak:∀j u,A[j]? =some u->w.cell? (D.add j)=some u) (h1:∀u∈A,u.oneCell'=true)
  (aj:0<m) (Y:n+m<=maxLen) (ae:(n+m)*bytes<=140737488355328) (hbase:base<=w.heap.size) (H:Nat) (ab:w.heap.size=H)
  (h:∀g cap w',w'.ownsRow base e 1 (aw (some (aN g)) (n+m) cap) (n+m) (C++A)->w.grownBy w' v.ownBlock->(v.ownBlock=some g\/g=H)->g<w'.heap.size->w'.ownsRow base e 1 v n C->
   BQ w w' v e A->wpList P I Q rest (a.put o.dst (aw (some (aN g)) (n+m) cap)) w'):wpList P I Q (o::rest) a w:=
 wpList_plain ah fun _ ac=>by
  obtain ⟨g,cap,w',hr,h2,J,R,U,V,Z⟩:=wN (P:=P) w t o.type base e i z bytes an hi ap am ad ar v n C al D m c A ai ak h1 aj Y ae hbase H ab;refine Ow ?_;exact ac _ _ (h g cap w' h2 J R U V Z)
variable {v1:ag}
def eC.app{t news}(h:eC w v1 t)(Q:w.grownBy w' v.ownBlock)(U:∀u∈news,u=aj t)(R:BQ w w' v 9 news):eC w' v1 t:=by
 rcases h with h|⟨g,n,c,cs,f,h1,h2,A,C⟩
 .exact .inl h
 by_cases e:v.ownBlock=some g
 .obtain ⟨D,I,J⟩:=R g cs f e h2;refine .inr ⟨g,n,c,D,f,h1,I,A,fun i hi=> ?_⟩
  rcases J i with h|⟨u,V,h⟩
  .rw [h];exact C i hi
  rw [h,U u V]
 exact .inr ⟨g,n,c,cs,f,h1,(Q.block g (lt_of_some h2) (fun e'=>e e'.symm)).trans h2,A,C⟩
def eC.of_own{t}(h:w.ownsRow base 9 1 v n (List.replicate n (aj t)))(D:n<=1000):eC w v t:=by
 rcases h.2 with ⟨rfl,rfl⟩|⟨g,cap,A,rfl,_,C,hc,_,J,I⟩
 .exact .inl rfl
 refine .inr ⟨g,n,cap,A,(0,0),rfl,C,D,fun i hi=> ?_⟩;have h1:(A.toList.take (n*1))[i]? =some (aj t):=by rw [I];simp [hi]
 rw [F0 ai] at h1
 simpa using h1
def Kd (h:aD:=by
 unfold MD LT RT;decide):aD:=h
def jW(lim:Nat)(w:af)(v:ag)(t:ae):Prop:=v=aw none 0 0\/∃g n c cs f,v=aw (some (aN g)) n c/\g<lim/\w.heap[g]? =some (Obj.cells cs 9 f)/\n<=1000/\∀i,i<n->cs[i]? =some (aj t)
def eC.lim{t:ae}(h:eC w v t):jW w.heap.size w v t:=by
 rcases h with h|⟨g,n,c,cs,f,h1,h2,A⟩
 .exact .inl h
 exact .inr ⟨g,n,c,cs,f,h1,lt_of_some h2,h2,A⟩
def jW.below{lim t}(h:jW lim w v t)(k:Below lim w w'):jW lim w' v t:=by
 rcases h with h|⟨g,n,c,cs,f,h1,h2,A,C⟩
 .exact .inl h
 exact .inr ⟨g,n,c,cs,f,h1,h2,(k.block g h2).trans A,C⟩
def jW.out{lim t}(h:jW lim w v t):eC w v t:=by
 rcases h with h|⟨g,n,c,cs,f,h1,h2,A⟩
 .exact .inl h
 exact .inr ⟨g,n,c,cs,f,h1,A⟩
def OS(b:Nat)(hT gR v:ag)(k:Nat):Prop:=k=b\/hT.ownBlock=some k\/gR.ownBlock=some k\/v.ownBlock=some k
def Mr{lim:Nat}{A:List (ag×Nat)}(h:WS base w b lv hT gR us A)(af:base<=lim)(aA:lim<=w.heap.size)(ab:w.ownsRow lim 9 1 v n xs)(aC:∀m∈A,jW lim w m.1 (nJ m.2))(aF:∀k,hT.ownBlock=some k->k<lim)(k:bK (OS b hT gR v) w w')
  {ac Y:ag} {ad ae:ag} (an:aL w' b #[lv,ac,Y] 31) (ay:w'.ownsRow base 22 1 ac (A.length+4) (A.map Prod.fst++[v,v1,ad,ae])) (ax:w'.ownsRow base 3 1 Y (A.length+4) (A.map (fun m=>ar m.2)++[ar A.length,ar A.length,ar A.length,ar A.length])) (aw:∀k,Y.ownBlock=some k->gR.ownBlock=some k\/w.heap.size<=k)
  (h0:eC w' v (nJ A.length)) (h1:eC w' v1 (nJ A.length)) (h2:eC w' ad (nJ A.length)) (ak:eC w' ae (nJ A.length)):
  ∃ah,WS base w' b lv ac Y us ah/\Below base w w'/\ah.length=A.length+4:=by
 have ty:∀(g:Nat)(cs:Array ag)(T:TypeId)(f:Nat×Nat),OS b hT gR v g->w.heap[g]? =some (Obj.cells cs T f)->T=31\/T=22\/(T=3/\gR.ownBlock=some g)\/T=9:=fun g cs T f hs D=>by
  have R:=h.blk
  rcases hs with rfl|e|e|e
  .unfold aL at R;rw [R] at D
   cases D
   exact .inl rfl
  .obtain ⟨V,C⟩:=nE h.ls e;unfold aL at C;rw [C] at D
   cases D
   exact .inr (.inl rfl)
  .obtain ⟨V,C⟩:=nE h.ks e;unfold aL at C;rw [C] at D
   cases D
   exact .inr (.inr (.inl ⟨rfl,e⟩))
  obtain ⟨V,C⟩:=nE ab e;unfold aL at C;rw [C] at D
  cases D
  exact .inr (.inr (.inr rfl))
 have av:base<=w.heap.size:=aV af aA;have bel:Below base w w':=k.below av (fun g U=>by
  rcases U with rfl|e|e|e
  .exact h.low
  .exact (h.ls.lt g e).1
  .exact (h.ks.lt g e).1
  exact aV af (ab.lt g e).1)
 refine ⟨A++[(v,A.length),(v1,A.length),(ad,A.length),(ae,A.length)],⟨an,h.low,az h.l (fun g cs f _ D=>k.block g (lt_of_some D) (fun hs=>by
   have:=ty g cs _ f hs D;simp at this)),by simpa using ay,by simpa using ax,fun u Q=>(h.ur u Q).keep k (fun g U hs=> ?_) (fun g cs T f hs D Z=> ?_),h.lowu,h.ap,fun u Q g U=> ?_,fun m I=> ?_,fun m I=> ?_⟩,bel,au⟩
 .obtain ⟨cs,T,C,am⟩:=(h.ur u Q).ty U;have:=ty g cs T _ hs C
  rcases am with rfl|rfl|rfl|rfl<;>(simp at this)
 .rcases ty g cs T f hs D with rfl|rfl|⟨rfl,e⟩|rfl
  .exact absurd Z Kd
  .exact absurd Z Kd
  .exact ⟨rfl,h.apk u Q g e⟩
  exact absurd Z Kd
 .rcases aw g U with e|e
  .exact h.apk u Q g e
  intro al;have:=(h.ur u Q).ud.il g al;omega
 .rcases aW.1 I with I|I
  .refine jW.out (lim:=lim) ?_
   rcases aC m I with aB|⟨g,aE,c,cs,f,e1,ai,J,aj⟩
   .exact .inl aB
   refine .inr ⟨g,aE,c,cs,f,e1,ai,(k.block g (lt_of_some J) (fun hs=> ?_)).trans J,aj⟩
   rcases hs with e|e|e|e
   .subst e;have R:=h.blk;unfold aL at R;rw [R] at J;simp at J
   .obtain ⟨V,C⟩:=nE h.ls e;unfold aL at C;rw [C] at J;simp at J
   .obtain ⟨V,C⟩:=nE h.ks e;unfold aL at C;rw [C] at J;simp at J
   have:=(ab.lt g e).1;omega
  simp only [cG,iQ,jD] at I
  rcases I with rfl|rfl|rfl|rfl
  .exact h0
  .exact h1
  .exact h2
  exact ak
 .rw [bg]
  rcases aW.1 I with I|I
  .have:=h.mks m I;omega
  simp only [cG,iQ,jD] at I
  rcases I with rfl|rfl|rfl|rfl<;>simp
section
abbrev Ig:=@List.replicate_append_replicate
abbrev wO(a0:ag):Obj:=.cells #[a0,a0,a0] 9
abbrev BR(a0:ag):Obj:=.cells #[a0,a0,a0,a0] 3
variable {l:List ae}
def RO{M:ae}(A:k<l.length):(List.replicate k (Value.string M)++(dM l).drop k).set k (aj M)=List.replicate (k+1) (aj M)++(dM l).drop (k+1):=by
 have hl:(dM l).length=l.length:=by simp [dM]
 rw [c9 ai,rG _ _ au,vt,Nat.sub_self,List.set_cons_zero,List.replicate_succ'];simp
def VN{M:ae}(A:k<l.length):∃x,(List.replicate k (Value.string M)++(dM l).drop k)[k]? =some (aj x):=by
 refine ⟨l[k],?_⟩;rw [nv au];simp [dM,A]
variable {lim m:Nat}
def Ke{r:ag}{I:List ag}(h:w.ownsRow base e size r n xs)(k:bK (fun q=>v.ownBlock=some q) w w')(D:w.ownsRow lim 9 1 v m I)(C:e≠9):w'.ownsRow base e size r n xs:=
 az h (fun g cs f _ A=>k.block g (lt_of_some A) (fun e'=>dT D A C e'.symm))
def Tryz.infoSts:(Tryz.prog.info? 22).map (fun i=>(i.zero,i.size,i.bytes))=some (some (aw none 0 0),1,24):=by kernel_rfl
def Kf{A:List (ag×Nat)}(h:WS base w b lv hT gR us A)(cI:base<=lim)(cK:lim<=w.heap.size)(l:List ae)(aM:w.ownsRow lim 9 1 v l.length (dM l))(df:l.length<=100)(cL:∀m∈A,jW lim w m.1 (nJ m.2))(cJ:∀k,hT.ownBlock=some k->k<lim)(dg:A.length+4<=8796093022208)(bP:nI w):
  Calls prog 89 #[.pointer (some ⟨b,0,none⟩),v] w fun e w'=>e=.returned (.tuple #[])/\∃cX cW bV,WS base w' b lv cX cW us bV/\Below base w w'/\bV.length=A.length+4:=by
 obtain ⟨i0,bb,bg,bh,bi⟩:=eL Tryz.infoStr;obtain ⟨cT,cD,cQ,cR,cS⟩:=eL Tryz.infoSts;obtain ⟨cU,cE,cN,cO,cP⟩:=eL Tryz.infoInt;obtain ⟨bS,bT,rfl⟩:=ax h.ls;obtain ⟨a6,a7,rfl⟩:=ax h.ks;obtain ⟨U,R,rfl⟩:=ax aM;obtain ⟨cY,cZ,rfl⟩:=ax h.l;obtain ⟨c0,c1,c2⟩:=three h.blk;have C:=DX A.length w ai bP;have de:=h.blk.lt;generalize a5:nJ A.length=M at*;clear bP;go_enter func89,ntmps89;go_wp2_with fail;refine C.mono ?_;rintro e w1 ⟨rfl,aI⟩;have dh:=aI.size;clear C c0 c1 c2;go_wp2_with fail
 go_loopw [6] (fun u wr=>∃k:Nat,k<=l.length/\u=.int .i64 k/\bK (fun q=>(Value.slice U l.length R).ownBlock=some q) w1 wr/\wr.ownsRow lim 9 1 (.slice U l.length R) l.length (List.replicate k (.string M)++(dM l).drop k)) (fun u _=>l.length-(intOf u).toNat)
 .exact ⟨0,ai,rfl,bK.refl _ _,by simpa using aB aM aI⟩
 .obtain ⟨k,V,rfl,aJ,am⟩:=hrel
  by_cases bN:k<l.length
  .have cH:(k:Int)<(l.length:Int):=by omega
   obtain ⟨x,bQ⟩:=VN (M:=M) bN;obtain ⟨g,c,e1,k0⟩:=aZ am k _ bQ;simp only [aK,bY] at e1;obtain ⟨rfl,rfl⟩:=e1;obtain ⟨dc,bM,_⟩:=dF am;have dn:=bM.fz;have cj:=oj am k (.string M);have b5:=aJ.set (show (fun q=>(Value.slice (some ⟨g,0,none⟩) l.length R).ownBlock=some q) (⟨g,k,none⟩:Addr).block from rfl) (.string M);have ck:=RO (M:=M) bN;clear aJ am bM bQ;go_wp2;go_roundw
   .exact ⟨k+1,ai,by go_num,b5,by rw [<-ck];exact cj⟩
   simp [intOf];omega
  have cH:¬((k:Int)<(l.length:Int)):=ai;have cF:k=l.length:=ai;subst cF;rw [eA (by simp [dM]),dS] at am;have cu:=(bK.of_below (S:=fun q=>(Value.slice U l.length R).ownBlock=some q) aI).trans aJ;have K0:=aJ.blk (h.blk.below aI) (fun e=>own_ne (aB aM aI) (h.blk.below aI) ay e.symm);have dj:=aJ.size;clear aJ;have bz:=am.alloc (bE .string M);have bq:=j6 (B:=wr.heap.size) (cs:=#[.string M]) (t:=9) (fr:=(0,0)) (aL.new wr #[.string M] 9);have bu:=(show ∀u∈([.string M]:List ag),u.oneCell'=true from by
   intro u J;simp at J;subst J
   rfl)
  have bC:=show l.length+1<=maxLen from by unfold maxLen;omega
  have bl:=show lim<=(wr.alloc (bE .string M)).heap.size from aS
  go_wp2_with (at_builtin;go_must (refine ir _ rfl _ _ 22 rfl lim 9 i0 _ 16 underlying22 bb bg bh bi rfl (.slice U l.length R) l.length (List.replicate l.length (.string M)) rfl bz ⟨wr.heap.size,0,none⟩ 1 1 [.string M] rfl rfl bq bu ay bC (show (l.length+1)*16<=140737488355328 from ai) bl (wr.heap.size+1) (show (wr.alloc (bE .string M)).heap.size=wr.heap.size+1 from au) ?YR))
  case YR=>
   intro g5 bf w5 bW a3 cy dp b3 cV;have a1:=(aA wr.heap.size wr).alloc aH (bE .string M);have cw:=(cu.trans (.of_below a1)).trans (dD a3 (fun k V=>V));have D:=K0.below a1;have cm:=show aL w5 b _ 31 from (a3.block b D.lt (own_ne (am.alloc (bE .string M)) D ay)).trans D
   have bI:=eC.of_own (n:=l.length+1) (t:=M) (by rw [show List.replicate (l.length+1) (Value.string M)=List.replicate l.length (.string M)++[.string M] by rw [show ([.string M]:List ag)=List.replicate 1 (.string M) from rfl,Ig]];exact bW) ai;have cM:∀u∈([.string M]:List ag),u=.string M:=by
    intro u J
    simpa using J
   have dk:wr.heap.size<=w5.heap.size:=by have:=a1.size;have:=a3.size;omega
   clear D bW a3 cy cV a1 bz bq bu bC bl cM;have bA:=b3.alloc (.cells #[.string M,.string M] 9);have bs:=j6 (B:=w5.heap.size) (cs:=#[.string M,.string M]) (t:=9) (fr:=(0,0)) (aL.new w5 #[.string M,.string M] 9);have bv:=(show ∀u∈([.string M,.string M]:List ag),u.oneCell'=true from by
    intro u J;simp at J;subst J
    rfl)
   have bD:=show l.length+2<=maxLen from by unfold maxLen;omega
   have bn:=show lim<=(w5.alloc (.cells #[.string M,.string M] 9)).heap.size from aS
   go_wp2_with (at_builtin;go_must (refine ir _ rfl _ _ 22 rfl lim 9 i0 _ 16 underlying22 bb bg bh bi rfl (.slice U l.length R) l.length (List.replicate l.length (.string M)) rfl bA ⟨w5.heap.size,0,none⟩ 2 2 [.string M,.string M] rfl rfl bs bv ay bD (show (l.length+2)*16<=140737488355328 from ai) bn (w5.heap.size+1) (show (w5.alloc (.cells #[.string M,.string M] 9)).heap.size=w5.heap.size+1 from au) ?YS))
   case YS=>
    intro ah ad Y bX aT cz dq b4 bR;have aP:=(aA w5.heap.size w5).alloc aH (.cells #[.string M,.string M] 9);have cx:=(cw.trans (.of_below aP)).trans (dD aT (fun k V=>V));have D:=cm.below aP;have co:=show aL Y b _ 31 from (aT.block b D.lt (own_ne (b3.alloc (.cells #[.string M,.string M] 9)) D ay)).trans D
    have bL:=eC.of_own (n:=l.length+2) (t:=M) (by rw [show List.replicate (l.length+2) (Value.string M)=List.replicate l.length (.string M)++[.string M,.string M] by rw [show ([.string M,.string M]:List ag)=List.replicate 2 (.string M) from rfl,Ig]];exact bX) ai;have bO:∀u∈([.string M,.string M]:List ag),u=.string M:=by
     intro u J
     simpa using J
    have dl:w5.heap.size<=Y.heap.size:=by have:=aP.size;have:=aT.size;omega
    have bJ:=(bI.frame (fun g cs f I=>aP.block g (lt_of_some I))).app aT bO bR;clear D bX aT cz bR aP bA bs bv bD bn bO bI;have bB:=b4.alloc (wO .string M);have bt:=j6 (B:=Y.heap.size) (cs:=#[.string M,.string M,.string M]) (t:=9) (fr:=(0,0)) (aL.new Y (vu .string M) 9);have bw:=(show ∀u∈([.string M,.string M,.string M]:List ag),u.oneCell'=true from by
     intro u J;simp at J;subst J
     rfl)
    have bF:=show l.length+3<=maxLen from by unfold maxLen;omega
    have bo:=show lim<=(Y.alloc (wO .string M)).heap.size from aS
    go_wp2_with (at_builtin;go_must (refine ir _ rfl _ _ 22 rfl lim 9 i0 _ 16 underlying22 bb bg bh bi rfl (.slice U l.length R) l.length (List.replicate l.length (.string M)) rfl bB ⟨Y.heap.size,0,none⟩ 3 3 [.string M,.string M,.string M] rfl rfl bt bw ay bF (show (l.length+3)*16<=140737488355328 from ai) bo (Y.heap.size+1) (show (Y.alloc (wO .string M)).heap.size=Y.heap.size+1 from au) ?YT))
    case YT=>
     intro ak af Z bZ aG cA dr c7 bk;have an:=(aA Y.heap.size Y).alloc aH (wO .string M);have aY:=(cx.trans (.of_below an)).trans (dD aG (fun k V=>V));have D:=co.below an;have aX:=show aL Z b _ 31 from (aG.block b D.lt (own_ne (b4.alloc (wO .string M)) D ay)).trans D
     have ct:=eC.of_own (n:=l.length+3) (t:=M) (by rw [show List.replicate (l.length+3) (Value.string M)=List.replicate l.length (.string M)++[.string M,.string M,.string M] by rw [show ([.string M,.string M,.string M]:List ag)=List.replicate 3 (.string M) from rfl,Ig]];exact bZ) ai;have be:∀u∈([.string M,.string M,.string M]:List ag),u=.string M:=by
      intro u J
      simpa using J
     have dm:Y.heap.size<=Z.heap.size:=by have:=an.size;have:=aG.size;omega
     have cq:=(bJ.frame (fun g cs f I=>an.block g (lt_of_some I))).app aG be bk;have cr:=(bL.frame (fun g cs f I=>an.block g (lt_of_some I))).app aG be bk;have cp:=eC.of_own c7 ai;obtain ⟨c3,c4,c5⟩:=three aX;have c6:=aX.fz;have dd:=aX.lt;have aW:=(Ke h.ls aY aM ay).alloc (.cells #[.slice U l.length R,.slice (some ⟨g5,0,none⟩) (l.length+1) bf,.slice (some ⟨ah,0,none⟩) (l.length+2) ad,.slice (some ⟨ak,0,none⟩) (l.length+3) af] 22);clear D bZ aG cA bk an bB bt bw bF bo be bL bJ;have bx:=(show ∀u∈([.slice U l.length R,.slice (some ⟨g5,0,none⟩) (l.length+1) bf,.slice (some ⟨ah,0,none⟩) (l.length+2) ad,.slice (some ⟨ak,0,none⟩) (l.length+3) af]:List ag),u.oneCell'=true from by
      intro u J;simp only [cG,iQ,jD] at J
      rcases J with rfl|rfl|rfl|rfl<;>rfl)
     have bG:=show A.length+4<=maxLen from by unfold maxLen;omega
     have bp:=show base<=(Z.alloc (.cells #[.slice U l.length R,.slice (some ⟨g5,0,none⟩) (l.length+1) bf,.slice (some ⟨ah,0,none⟩) (l.length+2) ad,.slice (some ⟨ak,0,none⟩) (l.length+3) af] 22)).heap.size from aS
     go_wp2_with (at_builtin;go_must (refine wpList_append_own_wide _ rfl _ _ 28 rfl base 22 cT _ 1 24 underlying28 cD cQ cR cS rfl ay (.slice bS A.length bT) A.length (A.map Prod.fst) rfl aW ⟨Z.heap.size,0,none⟩ 4 4 [.slice U l.length R,.slice (some ⟨g5,0,none⟩) (l.length+1) bf,.slice (some ⟨ah,0,none⟩) (l.length+2) ad,.slice (some ⟨ak,0,none⟩) (l.length+3) af] rfl rfl (j6 (B:=Z.heap.size) (cs:=#[.slice U l.length R,.slice (some ⟨g5,0,none⟩) (l.length+1) bf,.slice (some ⟨ah,0,none⟩) (l.length+2) ad,.slice (some ⟨ak,0,none⟩) (l.length+3) af]) (t:=22) (fr:=(0,0)) (aL.new Z #[.slice U l.length R,.slice (some ⟨g5,0,none⟩) (l.length+1) bf,.slice (some ⟨ah,0,none⟩) (l.length+2) ad,.slice (some ⟨ak,0,none⟩) (l.length+3) af] 22)) bx bG (show ((A.length+4)+(A.length+4) / 4+192)*24<=281474976710656 from ai) bp ?YU))
     case YU=>
      intro dt Q b0 aU _;obtain ⟨ab,ac,rfl⟩:=ax b0;have a9:=(aA Z.heap.size Z).alloc aH (.cells #[.slice U l.length R,.slice (some ⟨g5,0,none⟩) (l.length+1) bf,.slice (some ⟨ah,0,none⟩) (l.length+2) ad,.slice (some ⟨ak,0,none⟩) (l.length+3) af] 22);have D:=aX.below a9;have aO:aL Q b _ 31:=(aU.block b D.lt (own_ne aW D ay)).trans D;have bH:Q.ownsRow base 3 1 (.slice a6 A.length a7) A.length (A.map fun m=>.int .i64 m.2):=az ((Ke h.ks aY aM ay).alloc (.cells #[.slice U l.length R,.slice (some ⟨g5,0,none⟩) (l.length+1) bf,.slice (some ⟨ah,0,none⟩) (l.length+2) ad,.slice (some ⟨ak,0,none⟩) (l.length+3) af] 22)) (fun g cs f _ I=>aU.block g (lt_of_some I) (dT aW I ay));obtain ⟨c8,c9,da⟩:=three aO;have db:=aO.fz;have b9:=bU bH aO ay 1 (.slice ab (A.length+4) ac);have di:Z.heap.size+1<=Q.heap.size:=by have:=aU.size;simp at this;exact this
      clear D bH c3 c4 c5 c6 bx bG bp;have a8:=b9.alloc (BR .int .i64 A.length);have ch:=j6 (B:=Q.heap.size) (cs:=#[.int .i64 A.length,.int .i64 A.length,.int .i64 A.length,.int .i64 A.length]) (t:=3) (fr:=(0,0)) (aL.new' (Q.setCell ⟨b,1,none⟩ (.slice ab (A.length+4) ac)) #[.int .i64 A.length,.int .i64 A.length,.int .i64 A.length,.int .i64 A.length] 3 Q.heap.size NE);have ci:=(show ∀u∈([.int .i64 A.length,.int .i64 A.length,.int .i64 A.length,.int .i64 A.length]:List ag),u.oneCell'=true from by
       intro u J;simp at J;subst J
       rfl)
      have cl:=show A.length+4<=maxLen from by unfold maxLen;omega
      have b6:=show base<=((Q.setCell ⟨b,1,none⟩ (.slice ab (A.length+4) ac)).alloc (BR .int .i64 A.length)).heap.size from aS
      go_wp2_with (at_builtin;go_must (refine lX _ rfl _ _ 29 rfl base 3 cU _ 1 8 underlying29 cE cN cO cP rfl ay (.slice a6 A.length a7) A.length (A.map fun m=>.int .i64 m.2) rfl a8 ⟨Q.heap.size,0,none⟩ 4 4 [.int .i64 A.length,.int .i64 A.length,.int .i64 A.length,.int .i64 A.length] rfl rfl ch ci ay cl (show (A.length+4)*8<=140737488355328 from ai) b6 (Q.heap.size+1) (show ((Q.setCell ⟨b,1,none⟩ (.slice ab (A.length+4) ac)).alloc (BR .int .i64 A.length)).heap.size=Q.heap.size+1 from au) ?YV))
      case YV=>
       intro aF ap aV b2 a4 cB ds;have a2:=(aA _ (Q.setCell ⟨b,1,none⟩ (.slice ab (A.length+4) ac))).alloc aH (BR .int .i64 A.length);have D:=(aO.set 1 (.slice ab (A.length+4) ac)).below a2;have al:aL aV b #[.slice cY us.length cZ,.slice ab (A.length+4) ac,.slice a6 A.length a7] 31:=(a4.block b D.lt (own_ne a8 D ay)).trans D;obtain ⟨du,dv,dw⟩:=three al;have dx:=al.fz;have fr:∀(g:Nat)(cs:Array ag)(T:TypeId)(f:Nat×Nat),Q.heap[g]? =some (Obj.cells cs T f)->T≠31->T≠3->(aV.setCell ⟨b,2,none⟩ (.slice (some ⟨aF,0,none⟩) (A.length+4) ap)).heap[g]? =Q.heap[g]? :=fun g cs T f I t1 t2=>by
        have e1:(Q.setCell ⟨b,1,none⟩ (.slice ab (A.length+4) ac)).heap[g]? =Q.heap[g]? :=dY _ _ _ _ (fun (e:g=b)=>by
         have:=aO;subst e;unfold aL at this;rw [this] at I
         cases I
         exact t1 rfl)
        have av:=(a2.block g (by rw [show (Q.setCell ⟨b,1,none⟩ (.slice ab (A.length+4) ac)).heap.size=Q.heap.size by simp];exact lt_of_some I)).trans e1;have ba:=(a4.block g (lt_of_some (av.trans I)) (dT a8 (av.trans I) t2)).trans av;exact (dY _ _ _ _ (fun (e:g=b)=>by
         subst e;unfold aL at al;rw [al,I] at ba
         cases ba
         exact t1 rfl)).trans ba
       have aQ:∀(g:Nat)(cs:Array ag)(f:Nat×Nat),Z.heap[g]? =some (Obj.cells cs 9 f)->(aV.setCell ⟨b,2,none⟩ (.slice (some ⟨aF,0,none⟩) (A.length+4) ap)).heap[g]? =Z.heap[g]? :=fun g cs f I=>by
        have e1:=a9.block g (lt_of_some I);have av:=(aU.block g (lt_of_some (e1.trans I)) (dT aW (e1.trans I) ay)).trans e1;exact (fr g cs _ f (av.trans I) ay ay).trans av
       have cb:=show (aV.setCell ⟨b,2,none⟩ (.slice (some ⟨aF,0,none⟩) (A.length+4) ap)).ownsRow base 22 1 (.slice ab (A.length+4) ac) (A.length+4) _ from az b0 (fun g cs f _ I=>fr g cs _ f I ay ay)
       have b8:=bU b2 al ay 2 (.slice (some ⟨aF,0,none⟩) (A.length+4) ap);have b7:=al.set 2 (.slice (some ⟨aF,0,none⟩) (A.length+4) ap);have cd:=cp.frame aQ;have ce:=cq.frame aQ;have cf:=cr.frame aQ;have cg:=ct.frame aQ;have cC:bK (OS b (.slice bS A.length bT) (.slice a6 A.length a7) (.slice U l.length R)) w (aV.setCell ⟨b,2,none⟩ (.slice (some ⟨aF,0,none⟩) (A.length+4) ap)):=
        (((((aY.mono (fun k e=> .inr (.inr (.inr e)))).trans (.of_below a9)).trans (dD aU (fun k V=> .inr (.inl V)))).set (a:=⟨b,1,none⟩) (.inl rfl) _).trans (.of_below a2)).trans (dD a4 (fun k V=> .inr (.inr (.inl V)))) |>.set (a:=⟨b,2,none⟩) (.inl rfl) _
       clear b2 a4 a2 D al fr aQ c8 c9 da db;go_wp2;go_end0;refine ⟨rfl,_,_,Mr h cI cK aM cL cJ cC b7 cb b8 ?_ ?_ ?_ ?_ ?_⟩
       .intro k V;simp only [Value.ownBlock,aR] at V;subst V
        rcases aE cB with e|e
        .exact .inl e
        right;have h1:=aY.size;omega
       .rw [a5];exact cd
       .rw [a5];exact ce
       .rw [a5];exact cf
       rw [a5];exact cg
end
def aaC (h:aD:=by
 rw [eo,aI hit];rfl):aD:=h
def eC.form{t}(h:eC w v t):∃a n c,v=aw a n c/\n<=1000/\∀k,k<n->∃g,a=some (aN g)/\w.cell? (aC g k)=some (aj t):=by
 rcases h with rfl|⟨g,n,c,cs,f,rfl,h2,C,D⟩
 .exact ⟨none,0,0,rfl,ai,fun k A=>ai⟩
 exact ⟨_,n,c,rfl,C,fun k A=>⟨g,rfl,by simp [World.cell?,h2,D k A]⟩⟩
def Ms{A}(h:WS base w b lv hT gR us A)(az:A.length<=8796093022208)(aj:nI w)(h2:2<w.heap.size):
  Calls prog 48 #[bc b] w fun e w'=>e=bj (.bool true)/\an w w':=by
 obtain ⟨aG,aH,rfl⟩:=ax h.ls;obtain ⟨aE,aF,rfl⟩:=ax h.ks;obtain ⟨aJ,aL,rfl⟩:=ax h.l;go_enter func48,ntmps48;go_wp2_with fail
 go_loopw [3] (fun u wr=>∃i:Nat,i<=A.length/\u=ar i/\an w wr) (fun u _=>A.length-(intOf u).toNat)
 .exact ⟨0,ai,rfl,aA _ _⟩
 .obtain ⟨i,hi,rfl,I⟩:=hrel;obtain ⟨Q,Z⟩:∃Q,Q=wr:=⟨_,rfl⟩;subst Z;have D:=h.below I;obtain ⟨c0,c1,c2⟩:=three D.blk
  by_cases hit:i<A.length
  .have ae:(i:Int)<(A.length:Int):=by omega
   obtain ⟨Y,d1,e1,k1⟩:=aZ D.ls i _ aaC;obtain ⟨av,d2,R,ak⟩:=aZ D.ks i _ aaC;simp only [aK,bY] at e1 R;obtain ⟨rfl,rfl⟩:=e1;obtain ⟨rfl,rfl⟩:=R;have U:=D.mrk _ (bu hit);have ah:=D.mks _ (bu hit);generalize A[i]=m at*;obtain ⟨mv,K⟩:=m;simp only at k1 ak U ah;obtain ⟨al,n,ap,rfl,hn,ad⟩:=U.form;have C:=DX K Q ai (aj.below I h2);have V:=k1;generalize nJ K=M at*;go_wp2_with fail;refine C.mono ?_;rintro e w1 ⟨rfl,ac⟩;go_wp2_with fail
   go_loopw [5] (fun u au=>∃k:Nat,k<=n/\u=ar k/\an Q au) (fun u _=>n-(intOf u).toNat)
   .exact ⟨0,ai,rfl,ac⟩
   obtain ⟨k,ay,rfl,J⟩:=hrel;have ab:=D.below J;obtain ⟨c0,c1,c2⟩:=three ab.blk;have k1:wr.cell? (aC Y i)=some (aw al n ap):=am V J
   by_cases ag:k<n
   .have af:(k:Int)<(n:Int):=by omega
    obtain ⟨g,rfl,k3⟩:=ad k ag;have aB:=am k3 J;go_wp2;go_roundw
    .exact ⟨k+1,ai,by go_num,J⟩
    simp [intOf];omega
   have af:¬((k:Int)<(n:Int)):=ai;go_wp2;go_roundw
   .exact ⟨i+1,ai,by go_num,I.trans (J.mono I.size)⟩
   simp [intOf];omega
  have ae:¬((i:Int)<(A.length:Int)):=ai;go_wp2;go_ret;exact ⟨rfl,I⟩
def e8(base b:Nat)(A n:Nat)(w:af)(e:Ending)(w':af):Prop:=e=bj (.bool true)/\∃lv hT gR us h,WS base w' b lv hT gR us h/\Below base w w'/\h.length<=n+4/\1<=us.length/\us.length<=A+1
def EK{Q:List (ag×Nat)}(h:WS base w b lv hT gR us Q)(ac:u∈us)(ee:Int)(s rr ww:ae)(kd:Int)(aK:kd=6)(aN:Q.length+4<=8796093022208)(aP:nI w)(h2:2<w.heap.size):
  Calls prog 47 #[bc b,.agg #[bc u.x,bc u.y],.agg #[ar kd,ar ee,aj s,aj rr,aj ww]] w (e8 base b us.length Q.length w):=by
 subst aK;have D:an w ((w.alloc (gq bc u.x bc u.y)).alloc (eZ ar 6 ar ee aj s aj rr aj ww)):=((aA _ w).alloc aH _).alloc au _;have aI:base<=w.heap.size:=by have:=h.low;have:=h.blk.lt;omega
 have aQ:1<=us.length:=List.length_pos_of_mem ac;obtain ⟨W,V⟩:∃W,((w.alloc (gq bc u.x bc u.y)).alloc (eZ ar 6 ar ee aj s aj rr aj ww))=W:=⟨_,rfl⟩;have am:=(aL.new w #[bc u.x,bc u.y] 86).alloc (eZ ar 6 ar ee aj s aj rr aj ww);have av:=aL.new' (w.alloc (gq bc u.x bc u.y)) #[ar 6,ar ee,aj s,aj rr,aj ww] 34 (w.heap.size+1) au;rw [V] at D am av;have A:=h.below D;have I:=A.ur u ac;obtain ⟨e1,aw⟩:=tD I.both;have U:=EC u.x W _ _ _ _ I.up.p aw;rw [e1] at U;have hl:(jn u.ss).length<=24:=by rw [oA];exact I.ud.most
 have al:=fun w' (k:an W w')=>EA u.y w' _ _ _ (I.ud.d.below k)
 generalize jn u.ss=L at*;have aG:=ak V;have aC:=D.size;have hbase:base<=W.heap.size:=by have:=A.low;have:=A.blk.lt;omega
 clear h I ac e1 aw av V;go_enter func47,ntmps47;go_wp2_with fail;rw [aG.u];refine U.mono ?_;rintro e w1 ⟨v1,rfl,J,az⟩;obtain ⟨a1,c1,rfl⟩:=ax az;have ad:=al w1 J;obtain ⟨aR,p1⟩:=fZ (am.below J);clear U al;go_wp2_with fail;refine ad.mono ?_;rintro e aS ⟨aX,rfl,Y,ab⟩;obtain ⟨a2,c2,rfl⟩:=ax ab;have R:=J.trans (Y.mono J.size);have ap:=aB az Y;have af:=ED _ _ _ _ L aS ap ab ai;clear Y ab ad aR p1;go_wp2_with fail;refine af.mono ?_;rintro e aY ⟨rfl,Z⟩;have C:=R.trans (Z.mono R.size);have ah:=Kf (A.below C) hbase C.size L (aB ap Z) ai (fun m aO=>(A.mrk m aO).lim.below C) (fun k aJ=>(A.ls.lt k aJ).2) aN (aP.below (D.trans (C.mono aC)) h2);clear Z af R J;go_wp2_with fail;refine ah.mono ?_;rintro e aT ⟨rfl,aV,aU,aW,aE,ay,aM⟩;have aF:=show e8 base b us.length Q.length w (bj (.bool true)) aT from ⟨rfl,_,_,_,_,_,aE,((D.trans (C.mono aC)).mono aI).trans ay,ai,aQ,ai⟩
 clear aE ay aM ah;go_wp2;go_ret;exact aF
def Tryz.infoPr:(Tryz.prog.info? 86).map (fun i=>(i.zero,i.size,i.bytes))=some (some (.agg #[.pointer none,.pointer none]),2,16):=by kernel_rfl
variable {g5 bf:Nat} {w5:af} {o:Obj}
def WS.push{ms}(h:WS base w b lv hT gR us ms)(V:an w W)(al:UR W u)(ab:∀k,US u k->w.heap.size<=k)(ad:∀k,u.I k->w.heap.size<=k)(D:(W.alloc o).grownBy w5 lv.ownBlock)(aj:w5.ownsRow base 86 2 (aw (some (aN g5)) (us.length+1) bf) (us.length+1) (us.flatMap VK++VK u)):
  WS base (w5.setCell (aN b) (aw (some (aN g5)) (us.length+1) bf)) b (aw (some (aN g5)) (us.length+1) bf) hT gR (us++[u]) ms/\Below base w (w5.setCell (aN b) (aw (some (aN g5)) (us.length+1) bf)):=by
 have b1:=V.alloc V.size o;have h1:=h.below b1;have am:UR (W.alloc o) u:=al.below (bp.alloc aH o);have R:base<=w.heap.size:=by have:=h.low;have:=h.blk.lt;omega
 have U:aL w5 b #[lv,hT,gR] 31:=(D.block b h1.blk.lt (own_ne h1.l h1.blk ay)).trans h1.blk;obtain ⟨F,hF⟩:∃F,w5.setCell (aN b) (aw (some (aN g5)) (us.length+1) bf)=F:=⟨_,rfl⟩;have Q:bK (fun k=>k=b\/lv.ownBlock=some k) (W.alloc o) F:=by rw [<-hF];exact (dD D (fun k C=> .inr C)).set (a:=⟨b,0,none⟩) (.inl rfl) _
 have ty:∀(g:Nat)(cs:Array ag)(T:TypeId)(f:Nat×Nat),(g=b\/lv.ownBlock=some g)->(W.alloc o).heap[g]? =some (Obj.cells cs T f)->T=31\/T=86:=fun g cs T f hs A=>by
  rcases hs with rfl|e
  .have:=h1.blk;unfold aL at this;rw [this] at A
   cases A
   exact .inl rfl
  obtain ⟨ar,J⟩:=nE h1.l e;unfold aL at J;rw [J] at A
  cases A
  exact .inr rfl
 have keep:∀(v:ew),UR (W.alloc o) v->UR F v:=fun v hv=>hv.keep Q (fun g D hs=>by
   obtain ⟨cs,T,J,af⟩:=hv.ty D;have:=ty g cs T _ hs J
   rcases af with rfl|rfl|rfl|rfl<;>simp at this)
  (fun g cs T f hs A ak=>by
   rcases ty g cs T f hs A with rfl|rfl<;>exact absurd ak Kd)
 have key:∀(g:Nat)(cs:Array ag)(T:TypeId)(f:Nat×Nat),(W.alloc o).heap[g]? =some (Obj.cells cs T f)->T≠31->T≠86->F.heap[g]? =(W.alloc o).heap[g]? :=fun g cs T f A t1 t2=>Q.block g (lt_of_some A) (fun hs=>by
  rcases ty g cs T f hs A with e|e
  .exact t1 e
  exact t2 e)
 have Z:=bU aj U ay 0 (aw (some (aN g5)) (us.length+1) bf);have Y:=U.set 0 (aw (some (aN g5)) (us.length+1) bf);rw [hF] at Z Y ⊢;refine ⟨⟨Y,h.low,by simpa using Z,az h1.ls (fun g cs f _ A=>key g cs _ f A ay ay),az h1.ks (fun g cs f _ A=>key g cs _ f A ay ay),fun v hv=> ?_,fun v hv=> ?_,?_,fun v hv=> ?_,fun m ai=>(h1.mrk m ai).frame (fun g cs f A=>key g cs _ f A ay ay),h.mks⟩,?_⟩
 .rcases aW.1 hv with hv|hv
  .exact keep v (h1.ur v hv)
  rw [aX] at hv;subst hv;exact keep v am
 .rcases aW.1 hv with hv|hv
  .exact h.lowu v hv
  rw [aX] at hv;subst hv;exact fun k C=>aV R (ab k C)
 .refine Bg.2 ⟨h.ap,au,fun v hv q ac k C ah=> ?_⟩;rw [aX] at ac;subst ac;have h1:=(h.ur v hv).lt C;have h2:=ab k ah;omega
 .rcases aW.1 hv with hv|hv
  .exact h.apk v hv
  rw [aX] at hv;subst hv;intro k C ae;have h1:=(h.ks.lt k C).2;have h2:=ad k ae;omega
 .exact (b1.mono R).trans (Q.below (aV R b1.size) (fun g D=>by
   rcases D with rfl|e
   .exact h.low
   exact (h.l.lt g e).1))
def RQ(base b:Nat)(n m:Nat)(r:Bool)(w:af)(e:Ending)(w':af):Prop:=e=bj (.bool true)/\∃lv hT gR us h,WS base w' b lv hT gR us h/\Below base w w'/\h.length=m/\us.length=if r then n+1 else n
def Ih{ms}(h:WS base w b lv hT gR us ms)(s)(V:Laid w)(o c)(A:dy s=.error (o,c)):
  Calls prog 44 #[bc b,aj s] w (RQ base b us.length ms.length false w):=by
 have hc:=(oz A w).1;have I:=ak (Rz s w o c A hc V);have Q:=ak (fun w'=>Qc s w' c _ hc (oz A w').2.choose_spec);have H:=ak h;have Z:((c:Int) != 0)=true:=gV.2 ai;omega;have Y:base<=w.heap.size:=by have:=h.low;have:=h.blk.lt;omega
 clear h A V;go_enter func44,ntmps44;go_wp2_with fail;refine I.u.mono ?_;rintro e w1 ⟨rfl,R⟩;have C:=ak R;have J:=ak (Q.u w1);clear R I Q;go_wp2_with fail;refine J.u.mono ?_;rintro e ab ⟨rfl,U⟩;have D:=ak (C.u.trans (U.mono C.u.size));clear U J;go_wp2;go_ret;exact ⟨rfl,_,_,_,_,_,H.u.below D.u,D.u.mono Y,rfl,rfl⟩
def zG{ms}(h:WS base w b lv hT gR us ms)(s)(aB:Laid w)(ts)(ac:dy s=.ok ts)(aX:us.length+1<=8796093022208):
  Calls prog 44 #[bc b,aj s] w (RQ base b us.length ms.length true w):=by
 obtain ⟨i0,aC,aM,aN,aO⟩:=eL Tryz.infoPr;obtain ⟨aP,aQ,rfl⟩:=ax h.l;have af:=VJ YA Qa vX s w ts ac aB;have ai:=fun w'=>Vp s w' (XS ts (fun k=>w'.heap.size<=k)) (fun bm w w' h k=>h.kd k) (zE ac w')
 have aU:base<=w.heap.size:=by have:=h.low;have:=h.blk.lt;omega
 go_enter func44,ntmps44;go_wp2_with fail;refine af.mono ?_;rintro e w1 ⟨mv,Q,bm,tl,x,rfl,aG,aE,aI,J,aH⟩;have ah:=ai w1;have ad:=J.size;have av:=(⟨aG,⟨bm,tl,aE⟩,aI⟩:Nx w1 x mv Q (aw none 0 0) ts []);go_wp2_with fail;refine ah.mono ?_;rintro e A ⟨Y,y,rfl,aA,aJ,Z,aK⟩;have I:=J.trans (Z.mono J.size);have az:=(⟨av.keep (S:=fun _=>False) (.of_below Z) (fun _ _ e=>e) (fun _ _ _ _ e=>e.elim),⟨aA,aJ.fin,fun k D=>D.2,au⟩,EG,fun _ h=>by cases h⟩:UR A ⟨x,y,Y,mv,Q,aw none 0 0,aw none 0 0,ts,[],[],fun k=>w1.heap.size<=k/\k<A.heap.size⟩);have C:=h.below I;obtain ⟨c0,c1,c2⟩:=three C.blk;have aT:=C.blk.lt;have U:=C.l.alloc (gq bc x bc y);have an:=j6 (B:=A.heap.size) (cs:=#[bc x,bc y]) (t:=86) (fr:=(0,0)) (aL.new A _ _);have ap:=(show ∀u∈([bc x,bc y]:List ag),u.oneCell'=true from by
  intro u ae;simp only [cG,iQ,jD] at ae
  rcases ae with rfl|rfl<;>rfl)
 have ar:=(by unfold maxLen;omega:us.length+1<=maxLen);have al:=(by omega:(us.length+1)*16<=140737488355328);have ak:=(by have:=I.size;simp;omega:base<=(A.alloc (gq bc x bc y)).heap.size);have am:=(by simp:(A.alloc (gq bc x bc y)).heap.size=A.heap.size+1);go_wp2_with (at_builtin;go_must (refine lX _ rfl _ _ 27 rfl base 86 i0 _ 2 16 underlying27 aC aM aN aO rfl ay (aw aP us.length aQ) us.length (us.flatMap VK) rfl U ⟨A.heap.size,0,none⟩ 1 1 [bc x,bc y] rfl rfl an ap ay ar al ak (A.heap.size+1) am ?hrest))
 case hrest=>
  intro g5 bf w5 aF ab aR aW;have V:aL w5 b _ 31:=(ab.block b aS (own_ne U (C.blk.alloc _) ay)).trans (C.blk.alloc _);obtain ⟨aY,aZ,a2⟩:=three V;have a3:=V.fz;have R:=(WS.push (u:=⟨x,y,Y,mv,Q,aw none 0 0,aw none 0 0,ts,[],[],fun k=>w1.heap.size<=k/\k<A.heap.size⟩) h I az (fun k D=>by
   rcases D with (e|⟨n,c,e⟩)|(e|⟨n,c,e⟩)
   .subst e;exact aH
   .cases e
   .subst e;exact aV ad aK
   cases e) (fun k D=>aV ad D.1) ab aF)
  go_wp2;go_ret;exact ⟨rfl,_,_,_,_,_,R.1,R.2,rfl,au⟩
def jo(c:Int)(n:Nat):Nat:=(if c<0 then (-(c+1)).toNat else c.toNat) % n
def EL(c)(h:0<n):jo c n<n:=Nat.mod_lt _ h
def EM(c:Int)(n:Nat)(w)(h0: -9223372036854775808<=c)(h1:c<=9223372036854775807)(C:0<n)(D:n<=9223372036854775807):
  Calls prog 45 #[ar c,ar n] w fun e w'=>e=bj (ar (jo c n))/\w'=w:=by
 unfold jo
 by_cases hc:c<0
 .rw [if_pos hc];obtain ⟨m,A⟩:∃m:Nat,-(c+1)=m:=⟨(-(c+1)).toNat,ai⟩;rw [A,kh];go_enter func45,ntmps45;go_wp2;go_ret;exact ⟨rfl,rfl⟩
 .rw [if_neg hc];obtain ⟨m,rfl⟩:∃m:Nat,c=m:=⟨c.toNat,ai⟩;rw [kh];go_enter func45,ntmps45;go_wp2;go_ret;exact ⟨rfl,rfl⟩
def RR{ms}(h:WS base w b lv hT gR us ms)(af:1<=us.length)(ee s rr ww)(ae:us.length+1<=8796093022208)(Y:Laid w):
  Calls prog 15 #[bc b,.agg #[ar 2,ar ee,aj s,aj rr,aj ww]] w (e8 base b us.length ms.length w):=by
 have D:=(aA w.heap.size w).alloc aH (eZ ar 2 ar ee aj s aj rr aj ww);have R:=h.below D;have Z:=Y.below D Y.lt;have C:Calls prog 44 #[bc b,aj s] (w.alloc (eZ ar 2 ar ee aj s aj rr aj ww)) fun e w'=>e8 base b us.length ms.length w e w':=by
  have U:base<=w.heap.size:=by have:=h.low;have:=h.blk.lt;omega
  cases ab:dy s with
  |error er=>
   obtain ⟨o,c⟩:=er;refine (Ih R s Z o c ab).mono fun e w' ⟨I,lv,hT,gR,Q,J,h1,h2,ad,A⟩=>⟨I,lv,hT,gR,Q,J,h1,(D.mono U).trans h2,ai,by simp at A;omega,by simp at A;omega⟩
  |ok ts=>
   refine (zG R s Z ts ab ae).mono fun e w' ⟨I,lv,hT,gR,Q,J,h1,h2,ad,A⟩=>⟨I,lv,hT,gR,Q,J,h1,(D.mono U).trans h2,ai,by simp at A;omega,by simp at A;omega⟩
 go_enter func15,ntmps15;go_wp2_with fail;refine C.mono ?_;rintro e ag V;have ac:=V;obtain ⟨rfl,_⟩:=V;go_wp2;go_ret;exact ac
def nR{ms}(h:WS base w b lv hT gR us ms)(V:1<=us.length)(kd ee s rr ww)(I:kd=3\/kd=4\/kd=5)(hs:s.size<=maxLen)(ak: -9223372036854775808<=ee)(al:ee<=9223372036854775807)(aM:us.length+1<=8796093022208)(J:Laid w)(U:kj w)(h1:1<w.heap.size):
  Calls prog 15 #[bc b,.agg #[ar kd,ar ee,aj s,aj rr,aj ww]] w (e8 base b us.length ms.length w):=by
 obtain ⟨aO,ay,rfl⟩:=ax h.l;have R:jo ee us.length<us.length:=EL ee V;obtain ⟨g,c,e1,hc⟩:=bo VK 2 (fun _=>rfl) h.l (jo ee us.length) us[jo ee us.length] (aI R);simp only [aK,bY] at e1;obtain ⟨rfl,rfl⟩:=e1;have hi:us[jo ee us.length]? =some us[jo ee us.length]:=aI R;generalize us[jo ee us.length]=u at*;have Z:=fun w'=>EM ee us.length w' ak al ai ai
 generalize jo ee us.length=i at*;have D:=(aA w.heap.size w).alloc aH (eZ ar kd ar ee aj s aj rr aj ww);have A:=aL.new w #[ar kd,ar ee,aj s,aj rr,aj ww] 34;have aB:=am (show w.cell? (aC g (i*2))=some (bc u.x) from hc 0 _ ai rfl) D;have aE:=am (show w.cell? (aC g (i*2+1))=some (bc u.y) from hc 1 _ ai rfl) D;have ab:=am (three h.blk).1 D;have af:base<=w.heap.size:=by have:=h.low;have:=h.blk.lt;omega
 have C:=(fun W' (k:an w W')=>(EJ (h.below k) hi kd ee s rr ww hs (J.below k J.lt) (U.below k ai) (by have:=k.size;omega)).mono (fun e w' ⟨ah,ag⟩=>show e8 base b us.length ms.length w e w' from by
  obtain ⟨⟨u',av⟩,ae⟩:=ag;exact ⟨ah,_,_,_,_,_,av,(k.mono af).trans ae,ai,by simpa using V,au⟩))
 clear h hc hi J U;have aQ:(kd==1)=false:=by rcases I with rfl|rfl|rfl<;>rfl
 have aR:(kd==2)=false:=by rcases I with rfl|rfl|rfl<;>rfl
 have ap:((kd==3)=true)\/((kd==3)=false/\(kd==4)=true)\/((kd==3)=false/\(kd==4)=false/\(kd==5)=true):=by rcases I with rfl|rfl|rfl<;>decide
 clear I
 rcases ap with Y|⟨Y,az⟩|⟨Y,az,aP⟩
 all_goals
  go_enter func15,ntmps15;go_wp2_with fail;generalize ad:w.alloc (eZ ar kd ar ee aj s aj rr aj ww)=W at*;have aJ:=A.lt;clear ad;have aT:W.cell? (aC w.heap.size 1)=some (ar ee):=A.cell rfl;obtain ⟨aS,aU,aV,aW⟩:W.cell? (aN w.heap.size)=some (ar kd)/\W.cell? (aC w.heap.size 2)=some (aj s)/\W.cell? (aC w.heap.size 3)=some (aj rr)/\W.cell? (aC w.heap.size 4)=some (aj ww):=⟨A.cell rfl,A.cell rfl,A.cell rfl,A.cell rfl⟩;have aF:=ab;have aG:(i:Int)<(us.length:Int):=ai
  go_region_held3 (fun w'=>w'.cell? (aN b)=some (aw (some (aN g)) us.length ay)/\w'.cell? (aC w.heap.size 1)=some (ar ee)/\w'.cell? (aC g (i*2))=some (bc u.x)/\w'.cell? (aC g (i*2+1))=some (bc u.y)) (go_keep)
   ((go_at_call 45;refine (Z _).mono ?_;rintro e w' ⟨rfl,rfl⟩))
  all_goals
   go_wp2_with fail;refine (C _ ((D.alloc D.size _).drew)).mono ?_;rintro e aX Q;have ac:=Q;obtain ⟨rfl,_⟩:=Q;clear C;go_wp2;go_ret;exact ac
structure St where
 kd:Int
 ee:Int
 s:ae
 rr:ae
 ww:ae
structure Ii(x:St):Prop where
 e0: -9223372036854775808<=x.ee
 e1:x.ee<=9223372036854775807
 s:x.s.size<=maxLen
 r:x.rr.size<=maxLen
 w:x.ww.size<=maxLen
structure Env(w:af):Prop where
 laid:Laid w
 max:kj w
 pow:nI w
 lt:4<w.heap.size
variable {B:Nat}
def Env.below(h:Env w)(k:Below B w w')(A:4<B):Env w':=⟨h.laid.below k ai,h.max.below k ai,h.pow.below k ai,by have:=k.size;have:=h.lt;omega⟩
def XE(ks:List Int):Prop:=∀(base b:Nat) (lv hT gR:ag) (us:List ew) (h:List (ag×Nat)) (w:af) (x:St),WS base w b lv hT gR us h->1<=us.length->us.length+1<=8796093022208->h.length+4<=8796093022208->ks.any (fun k=>x.kd==k)=true->Ii x->Env w->4<base->
 Calls prog 15 #[bc b,.agg #[ar x.kd,ar x.ee,aj x.s,aj x.rr,aj x.ww]] w (e8 base b us.length h.length w)
def Mt(w:af)(v:ag)(n:Nat):Prop:=(v=aw none 0 0/\n=0)\/∃(h:Addr)(c:Nat)(z:Nat->St),v=aw (some h) n c/\n<=c/\∀j,j<n->Ii (z j)/\w.cell? (h.add (j*5))=some (ar (z j).kd)/\w.cell? (aC ((h.add (j*5)).block) ((h.add (j*5)).off+1))=some (ar (z j).ee)/\w.cell? (aC ((h.add (j*5)).block) ((h.add (j*5)).off+2))=some (aj (z j).s)/\w.cell? (aC ((h.add (j*5)).block) ((h.add (j*5)).off+3))=some (aj (z j).rr)/\w.cell? (aC ((h.add (j*5)).block) ((h.add (j*5)).off+4))=some (aj (z j).ww)
variable {j:Nat}
def Mt.cell{ad}(h:Mt w (aw (some ad) n c) n)(k:an w w')(I:j<n):∃x:St,Ii x/\w'.cell? (ad.add (j*5))=some (ar x.kd)/\w'.cell? (aC ((ad.add (j*5)).block) ((ad.add (j*5)).off+1))=some (ar x.ee)/\w'.cell? (aC ((ad.add (j*5)).block) ((ad.add (j*5)).off+2))=some (aj x.s)/\w'.cell? (aC ((ad.add (j*5)).block) ((ad.add (j*5)).off+3))=some (aj x.rr)/\w'.cell? (aC ((ad.add (j*5)).block) ((ad.add (j*5)).off+4))=some (aj x.ww):=by
 rcases h with ⟨h,_⟩|⟨Q,R,z,e,_,J⟩
 .cases h
 simp only [aK,aR,bY] at e;obtain ⟨rfl,rfl⟩:=e;obtain ⟨h0,h1,h2,A,C,D⟩:=J j I;exact ⟨z j,h0,am h1 k,am h2 k,am A k,am C k,am D k⟩
def EN:ae:=⟨#[116,121,112,101,32,117,115,101,114,32,123,32,125,32,116,121,112,101,32,103,114,111,117,112,32,123,32,109,101,109,98,101,114,58,32,91,117,115,101,114,44,32,103,114,111,117,112,35,109,101,109,98,101,114,93,59,32,125,32,116,121,112,101,32,100,111,99,32,123,32,112,97,114,101,110,116,58,32,91,100,111,99,93,59,32,111,119,110,101,114,58,32,91,117,115,101,114,93,59,32,98,97,110,110,101,100,58,32,91,117,115,101,114,44,32,117,115,101,114,42,93,59,32,101,100,105,116,111,114,58,32,91,117,115,101,114,44,32,103,114,111,117,112,35,109,101,109,98,101,114,93,32,124,32,111,119,110,101,114,32,124,32,112,97,114,101,110,116,46,101,100,105,116,111,114,59,32,118,105,101,119,101,114,58,32,40,91,117,115,101,114,42,93,32,124,32,101,100,105,116,111,114,41,32,45,32,98,97,110,110,101,100,59,32,125]⟩
def VO:∃ts,dy EN=.ok ts:=by
 have h:(match dy EN with| .ok _=>true| .error _=>false)=true:=aM
 cases A:dy EN with
 |ok ts=>exact ⟨ts,rfl⟩
 |error e=>rw [A] at h;cases h
def RU (h:aD:=by
 go_wp2_with fail
 go_region
 all_goals
  go_wp2_with fail;exact ⟨⟨k+1,ai,by go_num,by rw [HTK];simp,Uj.drew⟩,by simp [intOf];omega⟩):aD:=h
def Mu(ks)(a0:XE ks)(v n w0 w)(h:Mt w0 v n)(bn:n<=2199023255488)(g c)(bk:ks.length<=100)(a9:∀k (a7:k<ks.length),w.cell? (aC g k)=some (ar ks[k]))(Q:an w0 w)(D:Env w)(bi:4<w0.heap.size):
  Calls prog 16 #[v,aw (some (aN g)) ks.length c] w fun e w'=>e=bj (.bool true)/\an w0 w':=by
 have hv:∃a c,v=aw a n c/\(0<n->∃V,a=some V):=by
  rcases h with ⟨rfl,rfl⟩|⟨V,c,z,rfl,h1,_⟩
  .exact ⟨_,_,rfl,ai⟩
  exact ⟨_,_,rfl,fun _=>⟨_,rfl⟩⟩
 obtain ⟨bw,rc,rfl,ba⟩:=hv;obtain ⟨ts,bb⟩:=VO;have ah:=(aA w.heap.size w).alloc aH (.cells #[aw none 0 0,aw none 0 0,aw none 0 0] 31);have aZ:WS w.heap.size (w.alloc (.cells #[aw none 0 0,aw none 0 0,aw none 0 0] 31)) w.heap.size (aw none 0 0) (aw none 0 0) (aw none 0 0) [] []:=⟨aL.new w _ _,bV _,bQ,bQ,bQ,au,au,List.Pairwise.nil,au,au,au⟩;have ae:=zG aZ EN (D.laid.below ah D.laid.lt) ts bb au;have Y:=D.lt;have az:=Q.size;unfold EN at ae;go_enter func16,ntmps16;go_wp2_with fail;refine ae.mono ?_;rintro e w1 ⟨rfl,lv,hT,gR,us,A,J,a3,av,ay⟩;simp only [List.length_nil,if_true] at av ay;obtain ⟨bu,bv,rfl⟩:=ax J.l;obtain ⟨c0,c1,c2⟩:=three J.blk;have Z:us.length=1:=by simpa using ay
 rw [Z] at c0;have aM:=ah.trans a3;go_wp2_with fail
 go_loopw [7] (fun u wr=>∃(i:Nat) (lv hT gR:ag) (us:List ew) (A:List (ag×Nat)),i<=n/\u=ar i/\an w wr/\WS w.heap.size wr w.heap.size lv hT gR us A/\(1<=us.length/\us.length<=i+1/\A.length<=4*i)) (fun u _=>n-(intOf u).toNat)
 .exact ⟨0,_,_,_,us,A,ai,rfl,aM,J,ak ⟨by rw [Z];omega,by rw [Z];omega,by rw [av];omega⟩⟩
 .obtain ⟨i,lv,hT,gR,us,A,hi,rfl,I,J,C⟩:=hrel;obtain ⟨U,a1⟩:∃U,U=wr:=⟨_,rfl⟩;subst a1
  by_cases a6:i<n
  .have a5:(i:Int)<(n:Int):=by omega
   obtain ⟨V,rfl⟩:=ba ai;have aR:=Q.trans (I.mono az);obtain ⟨x,be,ad,aG,aI,aJ,aK⟩:=h.cell aR a6;have af:=ad;have aV:=aG;have aW:=aI;have aX:=aJ;have aY:=aK;go_wp2_with fail
   go_loopw [8,9] (fun u8 ab bh=>∃k:Nat,k<=ks.length/\ab=ar k/\u8=.bool ((ks.take k).any fun q=>x.kd==q)/\an U bh) (fun _ ab _=>ks.length-(intOf ab).toNat)
   .exact ⟨0,ai,rfl,rfl,aA _ _⟩
   obtain ⟨k,a7,rfl,rfl,Uj⟩:=hrel
   by_cases ap:k<ks.length
   .have a8:(k:Int)<(ks.length:Int):=by omega
    have ad:=am af Uj;have bA:wr.cell? (aC g k)=some (ar ks[k]):=am (am (a9 k ap) I) Uj;have HTK:=(by rw [cD ap,List.any_append];simp:((ks.take (k+1)).any fun q=>x.kd==q)=(((ks.take k).any fun q=>x.kd==q)||(x.kd==ks[k])));generalize ((ks.take k).any fun q=>x.kd==q)=t0 at*;generalize ks[k]=bp at*
    cases t0
    .exact RU
    exact RU
   have a8:¬((k:Int)<(ks.length:Int)):=ai;rw [cY ai];have ad:=am af Uj;have aG:=am aV Uj;have aI:=am aW Uj;have aJ:=am aX Uj;have aK:=am aY Uj;have R:=I.trans (Uj.mono I.size);have aj:=J.below Uj
   cases a2:ks.any fun q=>x.kd==q
   .have aT:=aj;go_wp2;go_roundw
    .exact ⟨i+1,_,_,_,us,A,ai,by go_num,R,aT,by
     obtain ⟨l1,l2,bg⟩:=aE C;exact ak ⟨l1,ai,ai⟩⟩
    simp [intOf];omega
   have aP:=a0 w.heap.size w.heap.size _ _ _ us A wr x aj C.1 (by have:=C.2.1;omega) (by have:=C.2.2;omega) a2 be (D.below R Y) Y;go_wp2_with fail;refine aP.mono ?_;rintro e bx ⟨rfl,bt,bs,bq,ac,aF,aB,a4,bl,bc,bo⟩;have B2:=R.trans a4;have aQ:=Ms aB (by have:=C.2.2;omega) (D.below B2 Y).pow Xb;have aS:=(show 1<=ac.length/\ac.length<=i+1+1/\aF.length<=4*(i+1) from by
    obtain ⟨l1,l2,bg⟩:=aE C;exact ⟨bc,ai,ai⟩)
   go_wp2_with fail;refine aQ.mono ?_;rintro e bz ⟨rfl,al⟩;have aO:=B2.trans (al.mono B2.size);have aU:=aB.below al;go_wp2;go_roundw
   .exact ⟨i+1,_,_,_,ac,aF,ai,by go_num,aO,aU,aS⟩
   simp [intOf];omega
  have a5:¬((i:Int)<(n:Int)):=ai;go_wp2;go_ret;exact ⟨rfl,Q.trans (I.mono az)⟩
def wP{ms}(h:WS base w b lv hT gR us ms)(al:1<=us.length)(kd ee s rr ww)(A:kd=6\/kd=7\/kd=8)(ag: -9223372036854775808<=ee)(ah:ee<=9223372036854775807)(aJ:us.length+1<=8796093022208)(J:∀W',an w W'->∀u∈us,Calls prog 47 #[bc b,.agg #[bc u.x,bc u.y],.agg #[ar kd,ar ee,aj s,aj rr,aj ww]] W' (e8 base b us.length ms.length W')):
  Calls prog 15 #[bc b,.agg #[ar kd,ar ee,aj s,aj rr,aj ww]] w (e8 base b us.length ms.length w):=by
 obtain ⟨aM,ap,rfl⟩:=ax h.l;have R:jo ee us.length<us.length:=EL ee al;obtain ⟨g,c,e1,hc⟩:=bo VK 2 (fun _=>rfl) h.l (jo ee us.length) us[jo ee us.length] (aI R);simp only [aK,bY] at e1;obtain ⟨rfl,rfl⟩:=e1;have hi:us[jo ee us.length]? =some us[jo ee us.length]:=aI R;generalize us[jo ee us.length]=u at*;have V:=fun w'=>EM ee us.length w' ag ah ai ai
 generalize jo ee us.length=i at*;have I:=(aA w.heap.size w).alloc aH (eZ ar kd ar ee aj s aj rr aj ww);have D:=aL.new w #[ar kd,ar ee,aj s,aj rr,aj ww] 34;have az:=am (show w.cell? (aC g (i*2))=some (bc u.x) from hc 0 _ ai rfl) I;have aB:=am (show w.cell? (aC g (i*2+1))=some (bc u.y) from hc 1 _ ai rfl) I;have Y:=am (three h.blk).1 I;have ae:base<=w.heap.size:=by have:=h.low;have:=h.blk.lt;omega
 have C:=fun W' (k:an w W')=>(J W' k u (bG hi)).mono (fun e w' ⟨af,lv,hT,gR,ay,av,h1,h2,ab,ac⟩=>show e8 base b us.length ms.length w e w' from ⟨af,lv,hT,gR,ay,av,h1,(k.mono ae).trans h2,ab,ac⟩)
 clear h hc hi J;have aS:(kd==1)=false:=by rcases A with rfl|rfl|rfl<;>rfl
 have aT:(kd==2)=false:=by rcases A with rfl|rfl|rfl<;>rfl
 have aO:(kd==3)=false:=by rcases A with rfl|rfl|rfl<;>rfl
 have aP:(kd==4)=false:=by rcases A with rfl|rfl|rfl<;>rfl
 have aQ:(kd==5)=false:=by rcases A with rfl|rfl|rfl<;>rfl
 have ak:((kd==6)=true)\/((kd==6)=false/\(kd==7)=true)\/((kd==6)=false/\(kd==7)=false/\(kd==8)=true):=by rcases A with rfl|rfl|rfl<;>decide
 clear A
 rcases ak with U|⟨U,au⟩|⟨U,au,aR⟩
 all_goals
  go_enter func15,ntmps15;go_wp2_with fail;generalize ad:w.alloc (eZ ar kd ar ee aj s aj rr aj ww)=W at*;have aG:=D.lt;clear ad;have aV:W.cell? (aC w.heap.size 1)=some (ar ee):=D.cell rfl;obtain ⟨aU,aW,aX,aY⟩:W.cell? (aN w.heap.size)=some (ar kd)/\W.cell? (aC w.heap.size 2)=some (aj s)/\W.cell? (aC w.heap.size 3)=some (aj rr)/\W.cell? (aC w.heap.size 4)=some (aj ww):=⟨D.cell rfl,D.cell rfl,D.cell rfl,D.cell rfl⟩;have aE:=Y;have aF:(i:Int)<(us.length:Int):=ai
  go_region_held3 (fun w'=>w'.cell? (aN b)=some (aw (some (aN g)) us.length ap)/\w'.cell? (aC w.heap.size 1)=some (ar ee)/\w'.cell? (aC g (i*2))=some (bc u.x)/\w'.cell? (aC g (i*2+1))=some (bc u.y)) (go_keep)
   ((go_at_call 45;refine (V _).mono ?_;rintro e w' ⟨rfl,rfl⟩))
  all_goals
   go_wp2_with fail;refine (C _ ((I.alloc I.size _).drew)).mono ?_;rintro e aZ Q;have Z:=Q;obtain ⟨rfl,_⟩:=Q;clear C;go_wp2;go_ret;exact Z
end Go.Proofs.YtlbpnlngckgcbaaGreatDoor
namespace Go.Proofs.YtlbpnlngckgcbaaGreatDoor
open Go.ChangeShapes Go.WideShapes Go.RowKit Go.Proofs.Tryz
def YW:Tryz.prog.cellsOf 3=1:=by kernel_rfl
def YX:Tryz.prog.cellsOf 9=1:=by kernel_rfl
def BS:Tryz.prog.cellsOf 34=5:=by kernel_rfl
def VP:Tryz.prog.bytesOf 34=64:=by kernel_rfl
def VQ{n}(h:(Lit.int .i64 n).wf=true): -9223372036854775808<=n/\n<=9223372036854775807:=by
 simp only [Lit.wf,bP,fF] at h;have h1:IntKind.i64.min= -9223372036854775808:=ay;have h2:IntKind.i64.max=9223372036854775807:=ay;rw [h1,h2] at h;exact h
variable {H:Type} {W:World} {fuel:Nat}
def VR{enc:TypeId×Value->H}{cs}{x:DataW H×List MemPlace}(h:DataW.trod enc Tryz.prog W 0 (fun _=>true) true fuel 34 cs=some x):
  ∃st:St,Ii st/\cs=[ar st.kd,ar st.ee,aj st.s,aj st.rr,aj st.ww]/\x.2=[]:=by
 obtain ⟨xs,k,ak,ab,V,Z,A⟩:=DataW.trod_struct Tryz.underlying34 h;rw [BS] at V
 match xs,Z,cs,V with
 | [y0,y1,y2,y3,y4],_,[v0,v1,v2,v3,v4],_=>
  have g0:=A 0 _ rfl;have C:=A 1 _ rfl;have D:=A 2 _ rfl;have I:=A 3 _ rfl;have J:=A 4 _ rfl;simp only [List.getElem_toArray,List.getElem_cons_zero,List.getElem_cons_succ] at g0 C D I J;simp only [YW,YX,m4,ri,List.take_succ_cons,List.take_zero,List.getElem?_cons_zero,List.getElem?_cons_succ] at g0 C D I J;obtain ⟨ac,e0,f0,al⟩:=DataW.trod_int Tryz.underlying3 g0;obtain ⟨n1,e1,f1,af⟩:=DataW.trod_int Tryz.underlying3 C;obtain ⟨n2,Q,f2,ah⟩:=DataW.trod_string Tryz.underlying9 D;obtain ⟨ad,R,f3,r3⟩:=DataW.trod_string Tryz.underlying9 I;obtain ⟨ae,U,f4,ai⟩:=DataW.trod_string Tryz.underlying9 J;simp only [kT,fY] at e0 e1 Q R U;subst e0 e1 Q R U;have Y:=VQ af;refine ⟨⟨ac,n1,n2,ad,ae⟩,⟨Y.1,Y.2,ah,r3,ai⟩,rfl,?_⟩;rw [ab,f0,f1,f2,f3,f4]
  rfl
def YY{enc:TypeId×Value->H}{a0 YZ aaD d p}(h:DataW.Trod enc Tryz.prog W 0 (fun _=>true) true 36 (aw a0 YZ aaD) d p):
  ∃n,Mt W (aw a0 YZ aaD) n/\(∀x∈p,x.block<W.heap.size)/\((d=.nil/\n=0)\/∃el am,d=aw el am/\el.length=n):=by
 obtain ⟨fuel,Z⟩:=h
 rcases Deep.open_slice Tryz.underlying36 Z with ⟨I,C⟩|⟨a,len,cap,m,n,an,J,I,_,hl,ay,U,C,Y⟩
 .simp only [Value.cells,List.toList_toArray,kT,fY,aK] at I;simp only [gW] at C;obtain ⟨rfl,rfl,rfl⟩:=I;obtain ⟨rfl,rfl⟩:=C;exact ⟨0,.inl ⟨rfl,rfl⟩,au,.inl ⟨rfl,rfl⟩⟩
 .simp only [Value.cells,List.toList_toArray,kT,fY,aK] at I;simp only [gW] at C;obtain ⟨rfl,rfl,rfl⟩:=I;obtain ⟨rfl,rfl⟩:=C;simp only [if_true] at U;subst U;have each:∀i,i<m->∃st:St,Ii st/\W.cell? (a.add (i*5))=some (ar st.kd)/\W.cell? (aC ((a.add (i*5)).block) ((a.add (i*5)).off+1))=some (ar st.ee)/\W.cell? (aC ((a.add (i*5)).block) ((a.add (i*5)).off+2))=some (aj st.s)/\W.cell? (aC ((a.add (i*5)).block) ((a.add (i*5)).off+3))=some (aj st.rr)/\W.cell? (aC ((a.add (i*5)).block) ((a.add (i*5)).off+4))=some (aj st.ww)/\J i=[]:=fun i hi=>by
   obtain ⟨ap,h1,h2⟩:=Y i hi;rw [BS] at h1;obtain ⟨_,ax,D⟩:=World.cells?_some h1;obtain ⟨st,ok,rfl,ac⟩:=VR h2;exact ⟨st,ok,D 0 ai,D 1 ai,D 2 ai,D 3 ai,D 4 ai,ac⟩
  have ab:∃V:St,True:=⟨⟨0,0,⟨#[]⟩,⟨#[]⟩,⟨#[]⟩⟩,trivial⟩;obtain ⟨V,_⟩:=ab;have ch:∃z:Nat->St,∀i,i<m->Ii (z i)/\W.cell? (a.add (i*5))=some (ar (z i).kd)/\W.cell? (aC ((a.add (i*5)).block) ((a.add (i*5)).off+1))=some (ar (z i).ee)/\W.cell? (aC ((a.add (i*5)).block) ((a.add (i*5)).off+2))=some (aj (z i).s)/\W.cell? (aC ((a.add (i*5)).block) ((a.add (i*5)).off+3))=some (aj (z i).rr)/\W.cell? (aC ((a.add (i*5)).block) ((a.add (i*5)).off+4))=some (aj (z i).ww)/\J i=[]:=by
   have:∀i,∃st:St,i<m->Ii st/\W.cell? (a.add (i*5))=some (ar st.kd)/\W.cell? (aC ((a.add (i*5)).block) ((a.add (i*5)).off+1))=some (ar st.ee)/\W.cell? (aC ((a.add (i*5)).block) ((a.add (i*5)).off+2))=some (aj st.s)/\W.cell? (aC ((a.add (i*5)).block) ((a.add (i*5)).off+3))=some (aj st.rr)/\W.cell? (aC ((a.add (i*5)).block) ((a.add (i*5)).off+4))=some (aj st.ww)/\J i=[]:=fun i=>by
    by_cases hi:i<m
    .obtain ⟨st,h⟩:=each i hi;exact ⟨st,fun _=>h⟩
    exact ⟨V,fun h=>absurd h hi⟩
   exact Pe
  obtain ⟨z,Q⟩:=ch;refine ⟨YZ,.inr ⟨a,m,z,rfl,hl,fun j av=> ?_⟩,fun x C=> ?_,.inr ⟨_,_,rfl,au⟩⟩
  .obtain ⟨ad,ae,af,ah,ak,al,_⟩:=Q j ai;exact ⟨ad,ae,af,ah,ak,al⟩
  rcases aW.1 C with C|C
  .obtain ⟨i,hi,rfl⟩:=MemPlace.mem_row.1 C;rw [BS] at hi;have h0:=(Q 0 ai).2.1;have:=World.block_lt_of_cell? W _ h0;have R:∀q,(a.add q).block=a.block:=fun q=>by unfold Addr.add;split<;>rfl
   rw [R] at this
   simpa [MemPlace.block,R] using this
  obtain ⟨i,hi,C⟩:=b6.1 C;rw [(Q i (List.mem_range.1 hi)).2.2.2.2.2.2] at C
  cases C
end Go.Proofs.YtlbpnlngckgcbaaGreatDoor
namespace Go.Proofs.YtlbpnlngckgcbaaGreatDoor
open Go.ChangeShapes Go.WideShapes Go.RowKit Go.Proofs.Tryz
def gOwn:ownKnob Tryz.prog.godebug=none:=by kernel_rfl
def gVar:Tryz.prog.globalNamed "errors.errorType"=some 0:=by kernel_rfl
def gRt:(Tryz.prog.cutTypes.find? (·.1== "internal/reflectlite.rtype")).map (·.2)=some 325:=by kernel_rfl
def gSize:Tryz.prog.types.size=445:=by kernel_rfl
def gOne:((List.range 445).filter fun t=>Tryz.prog.rowNamed t [101,114,114,111,114])=[77]:=by kernel_rfl
def gLaid:laidOutB Tryz.prog=true:=by kernel_rfl
def XF:Tryz.prog.globals.size=5:=by kernel_rfl
def gFour:((begin Tryz.prog (fun _ _=>0) default).world.heap[4]?).bind Obj.row? =some ((((begin Tryz.prog (fun _ _=>0) default).world.heap[4]?).bind Obj.row?).getD (#[],0)):=by kernel_rfl
variable {W:World}
def Y0(h:laidMet Tryz.prog [("math/bits.deBruijn32tab",Rows.laid_math_bits_deBruijn32tab),("math/bits.deBruijn64tab",Rows.laid_math_bits_deBruijn64tab),("internal/strconv.uint64pow10",Rows.laid_internal_strconv_uint64pow10)] W):nI W:=by
 obtain ⟨ps,⟨_,_,_,_,_,_,_,_,_,_,⟨_,_,_,_,_,_,_,_,_,_,⟨g',J,cs,fuel,p,q,C,D,I,A,_,_⟩,_⟩,_⟩,_⟩:=h;obtain rfl:=gK ((show Tryz.prog.globalNamed "internal/strconv.uint64pow10"=some 2 by kernel_rfl).symm.trans C);obtain rfl:=gK ((show (Tryz.prog.globals[2]?).map (·.type)=some 413 by kernel_rfl).symm.trans D);unfold nI Lib.TabIs;rw [I];rw [<-Lib.cells_of_tab (zs:=Lib.pow10Tab) (k:=.u64) Tryz.underlying413 Tryz.underlying192 aM aM A]
variable {H:Type} {fn:Func} {again:Bool}
def EO{enc:TypeId×Value->H}{a C os f s conds apart fresh handsOn}{X:World->Array Value->Prop}(Q:∀(w w':World)(args:Array Value),w.heap=w'.heap->X w args->X w' args)(own:ownKnob C.prog.godebug=none)(ak:os.Started)(aj:C.prog.inits.idxOf? f=none)(U:C.prog.funcs[f]? =some fn) (al:∃(w:World)(tape:Tape)(i:Input),w.os=os/\(w.forCall tape i).Shaped C.prog/\i.vars=[]/\Input.okWide C.prog (w.forCall tape i) .any w.heap.size f i/\
   ((s.pre enc C.prog fn conds apart (w.forCall tape i).memory i.args/\X (w.forCall tape i).memory i.args)/\sizedMet enc C.prog fn (OpenSpec.ofChange s) apart (w.forCall tape i).memory i.args)/\a.holds C.prog (lone (Frame.enter C.prog f i.args .normal) [] (w.forCall tape i))) (I:∀(W:World) (base:Nat) (args:Array Value) (ds gs:List (DataW H)) (A:List MemPlace),
   (∀(j:Nat) t v,fn.params[j]? =some t->args[j]? =some v->Value.okWide C.prog W .any base t v)->
   DataW.Whole enc C.prog fn.params.toList s.vars apart W args.toList ds gs A->
   conds.all (PathCond.test C.prog ⟨fn.params.toList,ds,s.plain.varTypes C.prog,gs⟩)=true->
   (DataW.weightsEach C.prog (fn.params.toList++s.plain.varTypes C.prog) (ds++gs)).all (· <=reachBytes)=true->W.ShapedOpen C.prog->X W args->
   a.holds C.prog (lone (Frame.enter C.prog f args .normal) [] W)->
   Calls C.prog f args W fun e W'=>∃v,e=bj v/\s.post enc C.prog fn apart fresh handsOn again W args v W'):
  ReturnsInHanded a C os f .any (fun w args=>(s.pre enc C.prog fn conds apart w args/\X w args)/\sizedMet enc C.prog fn (OpenSpec.ofChange s) apart w args) (s.post enc C.prog fn apart fresh handsOn again):=by
 refine returnsInHanded_of_calls own ak aj al ?_;intro w tape i _ ad _ Z ac Y;obtain ⟨_,_,_,J,V,_,_,_,_,ae⟩:=Z;have e:J=fn:=gK (V.symm.trans U);subst e;obtain ⟨⟨⟨ds,gs,A,D,hc⟩,ah⟩,ai⟩:=ac;refine (I (w.forCall tape i) w.heap.size i.args ds gs A ae (DataW.Whole.of_heap (w':=w.forCall tape i) bL D) hc (ai.weights D) ad (Q _ _ _ bL ah) Y).mono fun e W' ⟨v,R,ab⟩=> ?_
 subst R;exact ChangeSpec.post_blind ab
end Go.Proofs.YtlbpnlngckgcbaaGreatDoor
