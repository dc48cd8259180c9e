import Derived.Test.YtlbpnlngckgcbaaGreatDoorM26
import Derived.Test.YtlbpnlngckgcbaaGreatDoorM05
import Derived.Test.YtlbpnlngckgcbaaGreatDoorM24
import Derived.Deep.DeepAppendWide
import Derived.Deep.Slices
import Derived.DataShut
import Derived.OpenShut
import Derived.LaidMore
import Derived.LaidSub
import Derived.Test.YtlbpnlngckgcbaaGreatDoorRows
import Derived.HandedShaped
import Derived.Stop.Joined
set_option linter.all false
set_option maxHeartbeats 4000000
set_option maxRecDepth 100000
namespace Go.Proofs.YtlbpnlngckgcbaaGreatDoor
open Go.RowKit Go.PlainAid Go.Proofs.Tryz
variable {aA aU:Prop}
def DZ (h:aA:=by
 unfold UTy;decide):aA:=h
def Rv (h:aA:=by
 rw [e] at hr;obtain ⟨C,A,_⟩:=dx hr;exact ⟨_,_,A,.inr rfl⟩):aA:=h
structure eU where
 x:Nat
 y:Nat
 bm:Nat
 mv:ag
 lv:ag
 gv:ag
 tv:ag
 ts:List Ty
 gs:List Tu
 ss:List ae
 I:Nat->Prop
structure MY(w:af)(x:Nat)(mv lv gv:ag)(ts:List Ty)(gs:List Tu):Prop where
 p:PU w x mv lv gv gs
 m:∃bm tl,MC bm w mv ts tl
 l:YN ts lv w
structure LO(w:af)(y bm:Nat)(tv:ag)(ts:List Ty)(ss:List ae)(I:Nat->Prop):Prop where
 d:DU w y (.pointer (some ⟨bm,5,none⟩)) tv ss
 r:XS ts I bm w
 il:∀k,I k->k<w.heap.size
 most:ss.length<=24
structure UR(w:af)(u:eU):Prop where
 up:MY w u.x u.mv u.lv u.gv u.ts u.gs
 ud:LO w u.y u.bm u.tv u.ts u.ss u.I
 both:sm u.gs u.ss
 lets:tm u.ts u.gs
def US(u:eU)(k:Nat):Prop:=AC u.x u.gv k\/GU u.y u.tv k
def UTy(T:TypeId):Prop:=T=117\/T=123\/T=262\/T=264
def MD(T:TypeId):Prop:=(T=207\/T=159\/T=110)\/LT T\/RT T
variable {w:af} {base size n k:Nat} {e:TypeId} {v:ag} {xs:List ag}
def D0(h:w.ownsRow base e size v n xs)(A:v.ownBlock=some k):∃m c,v=.slice (some ⟨k,0,none⟩) m c:=by
 rcases h.2 with ⟨rfl,_⟩|⟨g,cap,C,rfl,_⟩
 ·cases A
 simp only [Value.ownBlock,aL] at A;subst A;exact ⟨_,_,rfl⟩
variable {mv lv gv:ag} {ts:List Ty} {gs:List Tu}
def MY.ty{x}(h:MY w x mv lv gv ts gs)(D:AC x gv k):∃cs T,aE w k cs T/\(T=117\/T=123):=by
 rcases D with rfl|⟨n,c,e⟩
 ·exact ⟨_,_,h.p.blk,.inl rfl⟩
 have hr:=h.p.row;exact Rv
variable {bm:Nat} {tv:ag} {ss:List ae}
def LO.ty{y I}(h:LO w y bm tv ts ss I)(D:GU y tv k):∃cs T,aE w k cs T/\(T=262\/T=264):=by
 rcases D with rfl|⟨n,c,e⟩
 ·exact ⟨_,_,h.d.blk,.inl rfl⟩
 have hr:=h.d.row;exact Rv
variable {u:eU}
def UR.ty(h:UR w u)(A:US u k):∃cs T,aE w k cs T/\UTy T:=by
 rcases A with A|A
 ·obtain ⟨cs,T,C,D⟩:=h.up.ty A;exact ⟨cs,T,C,D.elim .inl (fun e=> .inr (.inl e))⟩
 obtain ⟨cs,T,C,D⟩:=h.ud.ty A;exact ⟨cs,T,C,D.elim (fun e=> .inr (.inr (.inl e))) (fun e=> .inr (.inr (.inr e)))⟩
def UR.lt(h:UR w u)(C:US u k):k<w.heap.size:=by
 obtain ⟨cs,T,A,_⟩:=h.ty C;exact A.lt
variable {cs:Array ag} {T:TypeId}
def UR.nty(h:UR w u){f:Nat×Nat}(D:US u k)(C:w.heap[k]? =some (.cells cs T f)):UTy T:=by
 obtain ⟨J,T',A,I⟩:=h.ty D;unfold aE at A;rw [A] at C
 cases C
 exact I
variable {w':af}
def MY.keep{S:Nat->Prop}{x:Nat}(h:MY w x mv lv gv ts gs)(k:bG S w w')(D:∀k,AC x gv k->¬S k)(I:∀(k:Nat)(cs:Array ag)(T:TypeId)(f:Nat×Nat),S k->w.heap[k]? =some (Obj.cells cs T f)->¬((T=207\/T=159\/T=110)\/LT T)):MY w' x mv lv gv ts gs where
 p:=⟨k.blk h.p.blk (D _ (.inl rfl)),cC h.p.row (fun g cs f J A=>k.block g (lt_of_some A) (D g (.inr (D0 h.p.row J)))),h.p.apart,h.p.most⟩
 m:=by
  obtain ⟨bm,tl,Q⟩:=h.m;exact ⟨bm,tl,Q.kt (fun g cs T f A C=>k.block g (lt_of_some A) (fun hs=>I g cs T f hs A (.inl C))) k.size⟩
 l:=by
  obtain ⟨qs,h1,h2⟩:=h.l;exact ⟨qs,h1.frame (fun g cs T f A C=>k.block g (lt_of_some A) (fun hs=>I g cs T f hs A (.inr C))),h2⟩
def LO.keep{S:Nat->Prop}{y:Nat}{I:Nat->Prop}(h:LO w y bm tv ts ss I)(k:bG S w w')(C:∀k,GU y tv k->¬S k)(D:∀(k:Nat)(cs:Array ag)(T:TypeId)(f:Nat×Nat),S k->w.heap[k]? =some (Obj.cells cs T f)->RT T->T=3/\¬I k):LO w' y bm tv ts ss I where
 d:=⟨k.blk h.d.blk (C _ (.inl rfl)),cC h.d.row (fun g cs f J A=>k.block g (lt_of_some A) (C g (.inr (D0 h.d.row J)))),h.d.apart,h.d.most⟩
 r:=h.r.kx (fun g cs T f A Q hi=>k.block g (lt_of_some A) (fun hs=>by
  obtain ⟨e,hn⟩:=D g cs T f hs A Q;exact hn (hi e)))
 il:=fun i hi=>cK (h.il i hi) k.size
 most:=h.most
def UR.keep{S:Nat->Prop}(h:UR w u)(k:bG S w w')(D:∀k,US u k->¬S k)(J:∀(k:Nat)(cs:Array ag)(T:TypeId)(f:Nat×Nat),S k->w.heap[k]? =some (Obj.cells cs T f)->MD T->T=3/\¬u.I k):UR w' u where
 up:=h.up.keep k (fun i hi=>D i (.inl hi)) (fun i cs T f hs C A=>by
  have e:=(J i cs T f hs C (A.elim .inl (fun h=> .inr (.inl h)))).1;subst e;exact absurd A yO)
 ud:=h.ud.keep k (fun i hi=>D i (.inr hi)) (fun i cs T f hs C A=>J i cs T f hs C (.inr (.inr A)))
 both:=h.both
 lets:=h.lets
def UR.below(h:UR w u)(k:an w w'):UR w' u:=h.keep (S:=fun _=>False) (.of_below k) (fun _ _ e=>e) (fun _ _ _ _ e=>e.elim)
def ep(w:af)(v:ag)(t:ae):Prop:=v=.slice none 0 0\/∃g n c cs f,v=.slice (some ⟨g,0,none⟩) n c/\w.heap[g]? =some (Obj.cells cs 9 f)/\n<=1000/\∀i,i<n->cs[i]? =some (.string t)
def ep.frame{t}(h:ep w v t)(k:∀(g:Nat)(cs:Array ag)(f:Nat×Nat),w.heap[g]? =some (Obj.cells cs 9 f)->w'.heap[g]? =w.heap[g]?):ep w' v t:=by
 rcases h with h|⟨g,n,c,cs,f,h1,h2,A⟩
 ·exact .inl h
 exact .inr ⟨g,n,c,cs,f,h1,(k g cs f h2).trans h2,A⟩
def VR(u:eU):List ag:=[.pointer (some ⟨u.x,0,none⟩),.pointer (some ⟨u.y,0,none⟩)]
structure WS(base:Nat)(w:af)(b:Nat)(lv ir ib:ag)(us:List eU)(ms:List (ag×Nat)):Prop where
 blk:aE w b #[lv,ir,ib] 31
 low:base<=b
 l:w.ownsRow base 86 2 lv us.length (us.flatMap VR)
 ls:w.ownsRow base 22 1 ir ms.length (ms.map Prod.fst)
 ks:w.ownsRow base 3 1 ib ms.length (ms.map fun m=> .int .i64 m.2)
 ur:∀u∈us,UR w u
 lowu:∀u∈us,∀k,US u k->base<=k
 ap:us.Pairwise (fun u v=>∀k,US u k->¬US v k)
 apk:∀u∈us,∀k,ib.ownBlock=some k->¬u.I k
 mrk:∀m∈ms,ep w m.1 (nL m.2)
 mks:∀m∈ms,m.2<=ms.length
variable {b:Nat} {ir ib:ag} {us:List eU}
def WS.below{ms}(h:WS base w b lv ir ib us ms)(k:an w w'):WS base w' b lv ir ib us ms:=
 ⟨h.blk.below k,h.low,aB h.l k,aB h.ls k,aB h.ks k,fun u D=>(h.ur u D).below k,h.lowu,h.ap,h.apk,fun m C=>(h.mrk m C).frame (fun g cs f A=>k.block g (lt_of_some A)),h.mks⟩
variable {i:Nat}
def WS.upd{ms}(h:WS base w b lv ir ib us ms){u'}(hi:us[i]? =some u)(k:bG (US u) w w')(au:UR w' u')(av:u'.x=u.x)(aw:u'.y=u.y)(ad:∀k,US u' k->US u k\/w.heap.size<=k)(ah:∀k,ib.ownBlock=some k->¬u'.I k):
  WS base w' b lv ir ib (us.set i u') ms/\Below base w w':=by
 have Q:i<us.length:=by
  rcases gh i us.length with h|h
  ·exact h
  rw [kR h] at hi;cases hi
 have U:us[i]=u:=by rw [aH Q] at hi;exact gu hi
 have Z:u∈us:=bA hi;have ae:=h.ur u Z;have ak:base<=w.heap.size:=by have:=h.low;have:=h.blk.lt;omega
 have key:∀(g:Nat)(cs:Array ag)(T:TypeId)(f:Nat×Nat),w.heap[g]? =some (Obj.cells cs T f)->¬UTy T->w'.heap[g]? =w.heap[g]? :=fun g cs T f A Y=>k.block g (lt_of_some A) (fun hs=>Y (ae.nty hs A))
 have R:=iK.1 h.ap;have al:(us.set i u').flatMap VR=us.flatMap VR:=by
  have e:us.set i u'=us.take i++u'::us.drop (i+1):=by rw [List.set_eq_take_append_cons_drop,if_pos Q]
  have af:us=us.take i++u::us.drop (i+1):=by rw [<-U,List.getElem_cons_drop,o9]
  rw [e]
  conv=>rhs;rw [af]
  simp [VR,av,aw]
 have ar:∀j (C:j<us.length),i≠j->UR w' us[j]:=fun j C V=>(h.ur _ (bn C)).keep k (fun q D hs=>by
   rcases vB V with J|J
   ·exact R i j Q C J q (by rw [U];exact hs) D
   ·exact R j i C Q J q D (by rw [U];exact hs))
  (fun q cs T f hs A Y=>absurd Y (by
   have:=ae.nty hs A
   rcases this with rfl|rfl|rfl|rfl<;>(unfold MD LT RT;decide)))
 refine ⟨⟨(key b _ _ _ h.blk DZ).trans h.blk,h.low,?_,ay h.ls (fun g cs f _ A=>key g cs _ f A DZ),ay h.ks (fun g cs f _ A=>key g cs _ f A DZ),fun v hv=> ?_,fun v hv=> ?_,?_,fun v hv=> ?_,fun m an=>(h.mrk m an).frame (fun g cs f A=>key g cs _ f A DZ),h.mks⟩,k.below ak (fun g am=>h.lowu u Z g am)⟩
 ·rw [al,fF];exact ay h.l (fun g cs f _ A=>key g cs _ f A DZ)
 ·obtain ⟨j,C,rfl⟩:=dk hv;rw [fF] at C
  by_cases e:i=j
  ·subst e;rw [jq];exact au
  rw [ju e];exact ar j C e
 ·rcases rS hv with hv|rfl
  ·exact h.lowu v hv
  intro q D
  rcases ad q D with e|e
  ·exact h.lowu u Z q e
  omega
 ·refine iK.2 (fun a c ha hc ai q D e=> ?_);rw [fF] at ha hc;have old:∀j (C:j<us.length),i≠j->US us[j] q->US u' q->False:=fun j C V h1 h2=>by
   rcases ad q h2 with e|e
   ·rcases vB V with J|J
    ·exact R i j Q C J q (by rw [U];exact e) h1
    exact R j i C Q J q h1 (by rw [U];exact e)
   have:=(h.ur _ (bn C)).lt h1;omega
  by_cases ab:i=a
  ·subst ab;rw [jq] at D;rw [ju aj] at e;exact old c hc aj e D
  rw [ju ab] at D
  by_cases ac:i=c
  ·subst ac;rw [jq] at e;exact old a ha aj D e
  rw [ju ac] at e;exact R a c ha hc ai q D e
 ·rcases rS hv with hv|rfl
  ·exact h.apk v hv
  exact ah
def Y4(u:eU)(w:af)(c:Nat)(ts:List Ty)(gs:List Tu)(e:Ending)(w':af):Prop:=∃mv lv gv,e=.returned (.int .i64 c)/\MY w' u.x mv lv gv ts gs/\bG (AC u.x u.gv) w w'/\∀k,AC u.x gv k->AC u.x u.gv k\/w.heap.size<=k
def Y5(u:eU)(w:af)(c:Nat)(ts:List Ty)(ss:List ae)(e:Ending)(w':af):Prop:=∃bm tv I,e=.returned (.int .i64 c)/\LO w' u.y bm tv ts ss I/\bG (GU u.y u.tv) w w'/\(∀k,GU u.y tv k->GU u.y u.tv k\/w.heap.size<=k)/\∀k,I k->u.I k\/w.heap.size<=k
def Op2(f1 f2:Nat)(u:eU)(s:ae):Prop:=∀w,UR w u->Laid w->mT w->1<w.heap.size->∃c ts gs ss,(sm gs ss/\tm ts gs)/\Calls prog f1 #[.pointer (some ⟨u.x,0,none⟩),.string s] w (Y4 u w c ts gs)/\∀w',LO w' u.y u.bm u.tv u.ts u.ss u.I->Calls prog f2 #[.pointer (some ⟨u.y,0,none⟩),.string s] w' (Y5 u w' c ts ss)
variable {c:Nat}
def LP(h:MY w u.x u.mv u.lv u.gv u.ts u.gs)(k:an w w'):Y4 u w c u.ts u.gs (.returned (.int .i64 c)) w':=⟨_,_,_,rfl,h.keep (S:=fun _=>False) (.of_below k) (fun _ _ e=>e) (fun _ _ _ _ e=>e.elim),.of_below k,fun _ h=> .inl h⟩
def LQ(h:LO w u.y u.bm u.tv u.ts u.ss u.I)(k:an w w'):Y5 u w c u.ts u.ss (.returned (.int .i64 c)) w':=⟨_,_,_,rfl,h.keep (S:=fun _=>False) (.of_below k) (fun _ _ e=>e) (fun _ _ _ _ e=>e.elim),.of_below k,fun _ h=> .inl h,fun _ h=> .inl h⟩
def XS.fin{I}(h:XS ts I bm w):XS ts (fun k=>I k/\k<w.heap.size) bm w:=by
 obtain ⟨kv,rv,pv,kl,rl,pl,l,C,h1,h2,D,J⟩:=h;exact ⟨kv,rv,pv,kl,rl,pl,l,C,h1,h2,D,fun x A i hi=>⟨J x A i hi,((h1.dm.pt.rep x A).p.lt i hi).2⟩⟩
def D1:sm [] []:=⟨rfl,fun _ h=>by cases h⟩
def load2(u s):Op2 27 83 u s:=by
 intro w R U ad h1
 cases J:fq s with
 |error er=>
  obtain ⟨o,c⟩:=er;have hc:=(ou J w).1;refine ⟨c,u.ts,u.gs,u.ss,⟨R.both,R.lets⟩,(yN u.x s w o c J hc U).mono fun e w' ⟨D,A⟩=> ?_,fun w' Q=> ?_⟩
  ·rw [D];exact LP R.up A
  obtain ⟨_,p,C⟩:=ou J w';refine (Lq u.y s w' _ _ _ Q.d c p hc C).mono fun e w'' ⟨D,A⟩=> ?_
  rw [D];exact LQ Q A
 |ok ts=>
  refine ⟨0,ts,[],[],⟨D1,fun _ h=>by cases h⟩,(Dl YN P2 AJ u.x s w _ _ _ R.up.p.blk ts J U).mono fun e w' ⟨mv,lv,bm,tl,D,ab,Z,Y,A⟩=> ?_,fun w' Q=> ?_⟩
  ·exact ⟨mv,lv,_,D,⟨ab,⟨bm,tl,Z⟩,Y⟩,A.mono (fun k e=> .inl e),fun k I=>by
    rcases I with e|⟨n,c,e⟩
    ·exact .inl (.inl e)
    cases e⟩
  refine (P5 u.y s w' _ _ _ Q.d (XS ts (fun k=>w'.heap.size<=k)) (fun bm w w' h k=>h.kd k) (ze J w')).mono fun e w'' ⟨bm,D,V,ac,A⟩=> ?_
  exact ⟨bm,_,_,D,⟨V,ac.fin,fun k I=>I.2,ar⟩,A.mono (fun k e=> .inl e),(fun k I=>by
   rcases I with e|⟨n,c,e⟩
   ·exact .inl (.inl e)
   cases e),fun k I=> .inr I.1⟩
def KD.of_dus{y I}(h:LO w y bm tv ts ss I)(k:bG (GU y tv) w w'):KD w w':=KD.of_butS k (fun g cs T f hs C J=>by
 obtain ⟨Q,T',A,D⟩:=h.ty hs;unfold aE at A;rw [A] at C
 cases C
 rcases D with rfl|rfl<;>exact absurd J Do)
def Jy{r:Nat×List Tu}{e}(I:UR w u)(h:j8 u.x u.mv u.lv u.gv w r e w'):Y4 u w r.1 u.ts r.2 e w':=by
 obtain ⟨Q,U,Z,D,V⟩:=h;have key:∀(k:Nat)(cs:Array ag)(T:TypeId)(f:Nat×Nat),AC u.x u.gv k->w.heap[k]? =some (Obj.cells cs T f)->¬((T=207\/T=159\/T=110)\/LT T):=fun k cs T f hs A C=>by
  obtain ⟨ab,T',J,R⟩:=I.up.ty hs;unfold aE at J;rw [J] at A
  cases A
  rcases R with rfl|rfl<;>exact absurd C yO
 refine ⟨_,_,Q,U,⟨Z,?_,?_⟩,D,V⟩
 ·obtain ⟨bm,tl,Y⟩:=I.up.m;exact ⟨bm,tl,Y.kt (fun g cs T f A C=>D.block g (lt_of_some A) (fun hs=>key g cs T f hs A (.inl C))) D.size⟩
 obtain ⟨qs,h1,h2⟩:=I.up.l;exact ⟨qs,h1.frame (fun g cs T f A C=>D.block g (lt_of_some A) (fun hs=>key g cs T f hs A (.inr C))),h2⟩
def Jz{r:Nat×List ae}{e}(C:LO w u.y u.bm u.tv u.ts u.ss u.I)(h:iL u.y (.pointer (some ⟨u.bm,5,none⟩)) u.tv w r e w')(R:r.2.length<=24):Y5 u w r.1 u.ts r.2 e w':=by
 obtain ⟨V,J,U,A,Q⟩:=h;exact ⟨_,V,u.I,J,⟨U,C.r.kd (KD.of_dus C A),fun k D=>cK (C.il k D) A.size,R⟩,A,Q,fun k D=> .inl D⟩
variable {rl:List RV} {s:ae}
def VS{dE}(h:ss.length<=24):(Ui rl dE ss s).2.length<=24:=by
 unfold Ui
 split
 ·exact h
 split
 ·exact h
 split
 ·exact h
 split
 ·exact h
 split
 ·exact h
 simp;omega
def Rw(h:ss.length<=24):(DP ss s).2.length<=24:=by
 unfold DP
 split
 ·exact h
 split
 ·exact h
 have:=List.length_eraseIdx_le ss (j9 ss s).toNat;simp only
 first|omega|(rw [Al] at this;simp at*;omega)
def Rx(h:sm gs ss):gs.length=ss.length:=by rw [h.eq,bX]
def Y6(u s)(hs:s.size<=maxLen):Op2 28 84 u s:=by
 intro w A ad af h1;obtain ⟨bm,tl,ag⟩:=A.up.m;obtain ⟨kv,rv,pv,kl,rl,pl,l,J,aw,ah,av,_⟩:=A.ud.r;have hl:=Rx A.both;have ak:=A.ud.most;obtain ⟨e1,C⟩:=wk ah A.both s;refine ⟨(Vp u.ts u.gs s).1,u.ts,(Vp u.ts u.gs s).2,(Ui rl J u.ss s).2,⟨C,VN A.lets s⟩,(F9 VQ u.x bm s w _ _ _ _ u.ts tl A.up.p ag af h1 ad aj).mono fun e w' h=>Jy A h,fun w' D=> ?_⟩;obtain ⟨an,au,pv',am,U,kG,ap,Q,ac,ai,ab,_⟩:=D.r;obtain ⟨Z,R⟩:=wk ai A.both s;have al:(Ui rl J u.ss s).2=(Ui U Q u.ss s).2:=by
  have V:=C.eq;have Y:=R.eq;have inj:∀(l m:List ae),(∀y∈l,dC y=true)->(∀y∈m,dC y=true)->l.map tJ=m.map tJ->l=m:=by
   intro l
   induction l with
   |nil=>intro m _ _ h;cases m with
    |nil=>rfl
    |cons _ _=>simp at h
   |cons x l ih=>intro m h1 h2 h;cases m with
    |nil=>simp at h
    |cons y m=>
     simp only [cA,kO] at h;rw [Jr (h1 x ar) (h2 y ar) h.1,ih m (fun z I=>h1 z (by simp [I])) (fun z I=>h2 z (by simp [I])) h.2]
  exact inj _ _ C.ok R.ok (V.symm.trans Y)
 rw [al,Z];exact (GW u.y u.bm s w' an au pv' _ am U kG ap u.ss Q D.d ac.dm ab.1 hs aj).mono fun e w'' h=>Jz D h (VS ak)
def VT(u s)(hs:s.size<=maxLen):Op2 35 85 u s:=by
 intro w A J I h1;obtain ⟨e1,D⟩:=Rb A.both s;refine ⟨(AD u.gs s).1,u.ts,(AD u.gs s).2,(DP u.ss s).2,⟨D,Rk A.lets s⟩,(Da VQ u.x s w _ _ _ _ A.up.p I h1).mono fun e w' h=>Jy A h,fun w' C=> ?_⟩;rw [e1];exact (DQ u.y s w' _ _ _ C.d hs).mono fun e w'' h=>Jz C h (Rw A.ud.most)
abbrev ko(a0:Option Addr)(a1:Option Addr):Obj:=.cells #[.pointer a0,.pointer a1] 86
abbrev mE(a0:Int)(a1:Int)(a2:ae)(a3:ae)(a4:ae):Obj:=.cells #[.int .i64 a0,.int .i64 a1,.string a2,.string a3,.string a4] 34
def JB (h:aA:=by
 have:=bw.size;omega):aA:=h
def Ry (h:aA:=by
 go_enter func46,ntmps46;go_wp2_with fail;refine C1.u.mono ?_;rintro e w1 ⟨aj,ah,ag,rfl,ad,A,Z⟩;have C:=ai (CD.u w1 (D2 HU.u A));have R:=ai (PB.u.butS A HU.u au);have U:=ai (SB.u.butS A HU.u au);obtain ⟨ak,p1⟩:=hY R.u;have al:w1.cell? ⟨w.heap.size+1,2,none⟩=some (.string s):=U.u.cell rfl;have Q:=ai ad;have D:=ai A;have I:=ai Z;go_wp2_with fail;refine C.u.mono ?_;rintro e an ⟨af,am,ae,rfl,Y,V,ab,ac⟩;have J:=ai (Rz HWS.u hi HU.u BW.u HBO.u Q.u D.u I.u Y V ab ac);go_wp2;go_ret;exact ⟨rfl,J.u⟩):aA:=h
variable {w1:af}
def D2(C:UR w u)(R:bG (AC u.x u.gv) w w1):LO w1 u.y u.bm u.tv u.ts u.ss u.I:=C.ud.keep R (fun k U hs=>by
  obtain ⟨cs,T,h1,h2⟩:=C.ud.ty U;obtain ⟨Q,T',A,D⟩:=C.up.ty hs;unfold aE at h1 A;rw [h1] at A
  cases A
  rcases h2 with rfl|rfl<;>exact absurd D au)
 (fun k cs T f hs J V=>by
  obtain ⟨Q,T',A,D⟩:=C.up.ty hs;unfold aE at A;rw [A] at J
  cases J
  rcases D with rfl|rfl<;>exact absurd V Do)
variable {g:Nat}
def aE.butS(h:aE w g cs T)(D:bG (AC u.x u.gv) w w1)(J:UR w u)(I:¬(T=117\/T=123)):aE w1 g cs T:=D.blk h (fun hs=>by
 obtain ⟨Q,T',A,C⟩:=J.up.ty hs;unfold aE at h A;rw [h] at A
 cases A
 exact I C)
def RA(base b:Nat)(lv ir ib:ag)(us:List eU)(h:List (ag×Nat))(i:Nat)(w w':af):Prop:=(∃u',WS base w' b lv ir ib (us.set i u') h)/\Below base w w'
variable {W:af}
def Rz{ms w2}(h:WS base w b lv ir ib us ms)(hi:us[i]? =some u)(ap:UR W u)(R:an w W)(V:sm gs ss/\tm ts gs){mv1 lv1 gv1}(ab:MY w1 u.x mv1 lv1 gv1 ts gs)(Q:bG (AC u.x u.gv) W w1)(ah:∀k,AC u.x gv1 k->AC u.x u.gv k\/W.heap.size<=k){bm2 tv2 I2}(ag:LO w2 u.y bm2 tv2 ts ss I2)(U:bG (GU u.y u.tv) w1 w2)(ai:∀k,GU u.y tv2 k->GU u.y u.tv k\/w1.heap.size<=k)(ak:∀k,I2 k->u.I k\/w1.heap.size<=k):RA base b lv ir ib us ms i w w2:=by
 have Y:=D2 ap Q;have aw:=Q.size;have al:MY w2 u.x mv1 lv1 gv1 ts gs:=ab.keep U (fun k A hs=>by
   obtain ⟨cs,T,h1,h2⟩:=ab.ty A;obtain ⟨ac,T',C,D⟩:=Y.ty hs;unfold aE at h1 C;rw [h1] at C
   cases C
   rcases h2 with rfl|rfl<;>exact absurd D au)
  (fun k cs T f hs Z am=>by
   obtain ⟨ac,T',C,D⟩:=Y.ty hs;unfold aE at C;rw [C] at Z
   cases Z
   rcases D with rfl|rfl<;>exact absurd am yO)
 have J:=h.below R;have ae:bG (US u) W w2:=(Q.mono (fun k e=> .inl e)).trans (U.mono (fun k e=> .inr e));obtain ⟨ar,av⟩:=J.upd (u':=⟨u.x,u.y,bm2,mv1,lv1,gv1,tv2,ts,gs,ss,I2⟩) hi ae ⟨al,ag,V.1,V.2⟩ rfl rfl (fun k A=>by
  rcases A with A|A
  ·rcases ah k A with e|e
   ·exact .inl (.inl e)
   exact .inr e
  ·rcases ai k A with e|e
   ·exact .inl (.inr e)
   exact .inr aj) (fun k A ad=>by
  rcases ak k ad with e|e
  ·exact J.apk u (bA hi) k A e
  have:=(J.ks.lt k A).2;omega)
 have af:base<=w.heap.size:=by have:=h.low;have:=h.blk.lt;omega
 exact ⟨⟨_,ar⟩,(R.mono af).trans av⟩
def D3{ms}(h:WS base w b lv ir ib us ms)(hi:us[i]? =some u)(kd ee s rr ww)(hs:s.size<=maxLen)(ay:Laid w)(aB:mT w)(h1:1<w.heap.size):
  Calls prog 46 #[.agg #[.pointer (some ⟨u.x,0,none⟩),.pointer (some ⟨u.y,0,none⟩)],.agg #[.int .i64 kd,.int .i64 ee,.string s,.string rr,.string ww]] w fun e w'=>e=.returned (.bool true)/\RA base b lv ir ib us ms i w w':=by
 have bw:an w ((w.alloc (ko (some ⟨u.x,0,none⟩) (some ⟨u.y,0,none⟩))).alloc (mE kd ee s rr ww)):=((az _ w).alloc aD _).alloc ar _;have ax:=(h.ur u (bA hi)).below bw;have aJ:=load2 u s ((w.alloc (ko (some ⟨u.x,0,none⟩) (some ⟨u.y,0,none⟩))).alloc (mE kd ee s rr ww)) ax (ay.below bw aj) (aB.below bw aj) JB;have aK:=Y6 u s hs ((w.alloc (ko (some ⟨u.x,0,none⟩) (some ⟨u.y,0,none⟩))).alloc (mE kd ee s rr ww)) ax (ay.below bw aj) (aB.below bw aj) JB;have aI:=VT u s hs ((w.alloc (ko (some ⟨u.x,0,none⟩) (some ⟨u.y,0,none⟩))).alloc (mE kd ee s rr ww)) ax (ay.below bw aj) (aB.below bw aj) JB;have PB:=ai ((aE.new w #[.pointer (some ⟨u.x,0,none⟩),.pointer (some ⟨u.y,0,none⟩)] 86).alloc (mE kd ee s rr ww));have SB:=ai (aE.new' (w.alloc (ko (some ⟨u.x,0,none⟩) (some ⟨u.y,0,none⟩))) #[.int .i64 kd,.int .i64 ee,.string s,.string rr,.string ww] 34 (w.heap.size+1) ar);have HU:=ai ax;have BW:=ai bw;have HWS:=ai h;have aG:=ai aJ;have aH:=ai aK;have aF:=ai aI
 by_cases k3:kd=3
 ·obtain ⟨c,ts,gs,ss,aw,ap,av⟩:=aG.u;have C1:=ai ap;have CD:=ai av;have HBO:=ai aw;subst k3;exact Ry
 ·have aL:(kd==3)=false:=by simpa using k3
  by_cases aC:kd=4
  ·obtain ⟨c,ts,gs,ss,aw,ap,av⟩:=aH.u;have C1:=ai ap;have CD:=ai av;have HBO:=ai aw;subst aC;exact Ry
  have aM:(kd==4)=false:=by simpa using aC
  obtain ⟨c,ts,gs,ss,aw,ap,av⟩:=aF.u;have C1:=ai ap;have CD:=ai av;have HBO:=ai aw;exact Ry
def Bf(w w':af)(v:ag)(e:TypeId)(A:List ag):Prop:=∀(k:Nat)(cs:Array ag)(f:Nat×Nat),v.ownBlock=some k->w.heap[k]? =some (Obj.cells cs e f)->∃h,w'.heap[k]? =some (Obj.cells h e f)/\∀j:Nat,h[j]? =cs[j]? \/∃u∈A,h[j]? =some u
variable {P:Program}
def wu(w:af)(t ty:TypeId)(base:Nat)(e:TypeId)(i:TypeInfo)(z:ag)(bytes:Nat)(ah:P.underlying t=some (.slice e))(hi:P.info? e=some i)(ar:i.zero=some z)
  (R:i.size=1) (al:i.bytes=bytes) (aN:z.cells.size=1)
  (v:ag) (n:Nat) (D:List ag) (J:w.ownsRow base e 1 v n D)
  (U:Addr) (m c:Nat) (A:List ag) (Y:A.length=m*1) (ad:∀j u,A[j]? =some u->w.cell? (U.add j)=some u) (h1:∀u∈A,u.oneCell'=true)
  (aF:0<m) (ak:n+m<=maxLen) (am:(n+m)*bytes<=140737488355328) (aB:base<=w.heap.size) (H:Nat) (az:w.heap.size=H):
  ∃g cap w',(Builtin.append_ #[t,t] ty #[v,.slice (some U) m c]).run P w=.ok (.slice (some ⟨g,0,none⟩) (n+m) cap) w'/\
   w'.ownsRow base e 1 (.slice (some ⟨g,0,none⟩) (n+m) cap) (n+m) (D++A)/\w.grownBy w' v.ownBlock/\(v.ownBlock=some g\/g=H)/\g<w'.heap.size/\w'.ownsRow base e 1 v n D/\
   Bf w w' v e A:=by
 obtain ⟨g5,aT,w5,ae,aP,aw,av,aO⟩:=run_append_lies (P:=P) w t ty base e i z 1 bytes ah hi ar R al aN au v n D J U m c A Y ad h1 aF ak am aB H az;refine ⟨g5,aT,w5,ae,aP,aw,av,aO,?_⟩
 rcases J.2 with ⟨rfl,rfl⟩|⟨g,cap,C,rfl,aC,ac,aG,aD,an,aK⟩
 ·have aM:D=[]:=jP (by simpa using J.1);subst aM;exact ⟨bL,fun k cs f Q=>by cases Q⟩
 ·by_cases aJ:n+m<=cap
  ·have aE:n*i.size+A.length<=C.size:=by rw [Y,an,R];omega
   have ab:=run_append_room (P:=P) w t ty e i ah hi g n cap C ac U m c A (by rw [R];exact Y) ad h1 aJ aE;have V:=ab.symm.trans ae;simp only [Result.ok.injEq,aI] at V;obtain ⟨_,rfl⟩:=V;rw [R] at ab ⊢;have I:(w.setRow g (C.toList.take (n*1)++A++C.toList.drop (n*1+A.length)).toArray).heap[g]? =some (.cells (C.toList.take (n*1)++A++C.toList.drop (n*1+A.length)).toArray e (0,0)):=setRow_heap w g C _ e _ ac;have Z:(C.toList.take (n*1)).length=n:=by rw [dO,qZ,an];omega
   refine ⟨⟨J.1,.inr ⟨g,cap,_,rfl,aC,I,aG,aD,?_,?_⟩⟩,fun k cs f Q ap=> ?_⟩
   ·simp only [rO,aZ,dO,m2,Array.length_toList];omega
   ·rw [<-aK,dc];exact rJ (by rw [Z];omega)
   simp only [Value.ownBlock,aL] at Q;subst Q;rw [ac] at ap
   cases ap
   refine ⟨_,I,fun j=> ?_⟩
   rcases gh j n with h|h
   ·left;rw [List.getElem?_toArray,dc,ny aj,Fb aj];simp
   rcases gh j (n+A.length) with ax|ax
   ·right;rw [List.getElem?_toArray,dc,nz aj,Z,ny aj,aH aj];exact ⟨_,bn _,rfl⟩
   left;rw [List.getElem?_toArray,nz (by rw [aZ,Z];omega),rb];rw [aZ,Z];rw [show n*1+A.length+(j-(n+A.length))=j by omega];simp
  have holds:∀j u,D[j]? =some u->w.cell? ((⟨g,0,none⟩:Addr).add j)=some u:=J.cells (g:=g) rfl;have ab:=run_append_grow (P:=P) w t ty e i z ah hi ar ⟨g,0,none⟩ n cap D (by rw [R];exact J.1) holds U m c A (by rw [R];exact Y) ad aj (by simp only [maxLen] at ak;omega) (growslice_fits aj (by rw [al];exact am));have V:=ab.symm.trans ae;simp only [Result.ok.injEq,aI] at V;obtain ⟨_,rfl⟩:=V;have ai:∀k,k<w.heap.size->(w.drew.alloc (.cells (D.toArray++A.toArray++Builtin.zeroCells z.cells (grownCap w (n+m) cap e-(n+m))) e)).heap[k]? =w.heap[k]? :=fun k Q=>heap_alloc_old w.drew _ Q
  refine ⟨ay J (fun k cs f _ I=>ai k (lt_of_some I)),fun k cs f _ I=>⟨cs,(ai k (lt_of_some I)).trans I,fun j=> .inl rfl⟩⟩
variable {rest:List Oper}
def ie(w:af){I:Array Oper}{o:Oper}{a:Act}{Q:Exit->Act->af->Prop}(ai:o.guard=none)(s x:Operand)(t:TypeId)
  (ho:o.op=.call {callee:=.builtin .append,args:=#[s,x],argTypes:=#[t,t]})
  (base:Nat) (e:TypeId) (i:TypeInfo) (z:ag) (bytes:Nat) (ap:P.underlying t=some (.slice e)) (hi:P.info? e=some i) (ar:i.zero=some z)
  (an:i.size=1) (ae:i.bytes=bytes) (au:z.cells.size=1)
  (v:ag) (n:Nat) (C:List ag) (hs:a.eval s=v) (am:w.ownsRow base e 1 v n C)
  (D:Addr) (m c:Nat) (A:List ag) (hx:a.eval x=.slice (some D) m c) (aj:A.length=m*1) (al:∀j u,A[j]? =some u->w.cell? (D.add j)=some u) (h1:∀u∈A,u.oneCell'=true)
  (ak:0<m) (Y:n+m<=maxLen) (ah:(n+m)*bytes<=140737488355328) (ad:base<=w.heap.size) (H:Nat) (ab:w.heap.size=H)
  (h:∀g cap w',w'.ownsRow base e 1 (.slice (some ⟨g,0,none⟩) (n+m) cap) (n+m) (C++A)->w.grownBy w' v.ownBlock->(v.ownBlock=some g\/g=H)->g<w'.heap.size->w'.ownsRow base e 1 v n C->
   Bf w w' v e A->wpList P I Q rest (a.put o.dst (.slice (some ⟨g,0,none⟩) (n+m) cap)) w'):wpList P I Q (o::rest) a w:=
 wpList_plain ai fun _ ac=>by
  obtain ⟨g,cap,w',hr,h2,J,R,U,V,Z⟩:=wu (P:=P) w t o.type base e i z bytes ap hi ar an ae au v n C am D m c A aj al h1 ak Y ah ad H ab;refine N7 ?_;exact ac _ _ (h g cap w' h2 J R U V Z)
variable {v1:ag}
def ep.app{t news}(h:ep w v1 t)(Q:w.grownBy w' v.ownBlock)(U:∀u∈news,u=.string t)(R:Bf w w' v 9 news):ep w' v1 t:=by
 rcases h with h|⟨g,n,c,cs,f,h1,h2,A,C⟩
 ·exact .inl h
 by_cases e:v.ownBlock=some g
 ·obtain ⟨D,I,J⟩:=R g cs f e h2;refine .inr ⟨g,n,c,D,f,h1,I,A,fun i hi=> ?_⟩
  rcases J i with h|⟨u,V,h⟩
  ·rw [h];exact C i hi
  rw [h,U u V]
 exact .inr ⟨g,n,c,cs,f,h1,(Q.block g (lt_of_some h2) (fun e'=>e e'.symm)).trans h2,A,C⟩
def ep.of_own{t}(h:w.ownsRow base 9 1 v n (List.replicate n (.string t)))(D:n<=1000):ep w v t:=by
 rcases h.2 with ⟨rfl,rfl⟩|⟨g,cap,A,rfl,_,C,hc,_,J,I⟩
 ·exact .inl rfl
 refine .inr ⟨g,n,cap,A,(0,0),rfl,C,D,fun i hi=> ?_⟩;have h1:(A.toList.take (n*1))[i]? =some (.string t):=by rw [I];simp [hi]
 rw [Fb aj] at h1
 simpa using h1
def JC (h:aA:=by
 unfold MD LT RT;decide):aA:=h
def jK(lim:Nat)(w:af)(v:ag)(t:ae):Prop:=v=.slice none 0 0\/∃g n c cs f,v=.slice (some ⟨g,0,none⟩) n c/\g<lim/\w.heap[g]? =some (Obj.cells cs 9 f)/\n<=1000/\∀i,i<n->cs[i]? =some (.string t)
def ep.lim{t:ae}(h:ep w v t):jK w.heap.size w v t:=by
 rcases h with h|⟨g,n,c,cs,f,h1,h2,A⟩
 ·exact .inl h
 exact .inr ⟨g,n,c,cs,f,h1,lt_of_some h2,h2,A⟩
def jK.below{lim t}(h:jK lim w v t)(k:Below lim w w'):jK lim w' v t:=by
 rcases h with h|⟨g,n,c,cs,f,h1,h2,A,C⟩
 ·exact .inl h
 exact .inr ⟨g,n,c,cs,f,h1,h2,(k.block g h2).trans A,C⟩
def jK.out{lim t}(h:jK lim w v t):ep w v t:=by
 rcases h with h|⟨g,n,c,cs,f,h1,h2,A⟩
 ·exact .inl h
 exact .inr ⟨g,n,c,cs,f,h1,A⟩
def OS(b:Nat)(ir ib v:ag)(k:Nat):Prop:=k=b\/ir.ownBlock=some k\/ib.ownBlock=some k\/v.ownBlock=some k
def LR{lim:Nat}{A:List (ag×Nat)}(h:WS base w b lv ir ib us A)(af:base<=lim)(az:lim<=w.heap.size)(ab:w.ownsRow lim 9 1 v n xs)(aC:∀m∈A,jK lim w m.1 (nL m.2))(aF:∀k,ir.ownBlock=some k->k<lim)(k:bG (OS b ir ib v) w w')
  {ac Y:ag} {ad ae:ag} (an:aE w' b #[lv,ac,Y] 31) (ax:w'.ownsRow base 22 1 ac (A.length+4) (A.map Prod.fst++[v,v1,ad,ae])) (aw:w'.ownsRow base 3 1 Y (A.length+4) (A.map (fun m=> .int .i64 m.2)++[.int .i64 A.length,.int .i64 A.length,.int .i64 A.length,.int .i64 A.length])) (av:∀k,Y.ownBlock=some k->ib.ownBlock=some k\/w.heap.size<=k)
  (h0:ep w' v (nL A.length)) (h1:ep w' v1 (nL A.length)) (h2:ep w' ad (nL A.length)) (ak:ep w' ae (nL A.length)):
  ∃ah,WS base w' b lv ac Y us ah/\Below base w w'/\ah.length=A.length+4:=by
 have ty:∀(g:Nat)(cs:Array ag)(T:TypeId)(f:Nat×Nat),OS b ir ib v g->w.heap[g]? =some (Obj.cells cs T f)->T=31\/T=22\/(T=3/\ib.ownBlock=some g)\/T=9:=fun g cs T f hs D=>by
  have R:=h.blk
  rcases hs with rfl|e|e|e
  ·unfold aE at R;rw [R] at D
   cases D
   exact .inl rfl
  ·obtain ⟨V,C⟩:=nI h.ls e;unfold aE at C;rw [C] at D
   cases D
   exact .inr (.inl rfl)
  ·obtain ⟨V,C⟩:=nI h.ks e;unfold aE at C;rw [C] at D
   cases D
   exact .inr (.inr (.inl ⟨rfl,e⟩))
  obtain ⟨V,C⟩:=nI ab e;unfold aE at C;rw [C] at D
  cases D
  exact .inr (.inr (.inr rfl))
 have au:base<=w.heap.size:=aP af az;have bel:Below base w w':=k.below au (fun g U=>by
  rcases U with rfl|e|e|e
  ·exact h.low
  ·exact (h.ls.lt g e).1
  ·exact (h.ks.lt g e).1
  exact aP af (ab.lt g e).1)
 refine ⟨A++[(v,A.length),(v1,A.length),(ad,A.length),(ae,A.length)],⟨an,h.low,ay h.l (fun g cs f _ D=>k.block g (lt_of_some D) (fun hs=>by
   have:=ty g cs _ f hs D;simp at this)),by simpa using ax,by simpa using aw,fun u Q=>(h.ur u Q).keep k (fun g U hs=> ?_) (fun g cs T f hs D Z=> ?_),h.lowu,h.ap,fun u Q g U=> ?_,fun m I=> ?_,fun m I=> ?_⟩,bel,ar⟩
 ·obtain ⟨cs,T,C,am⟩:=(h.ur u Q).ty U;have:=ty g cs T _ hs C
  rcases am with rfl|rfl|rfl|rfl<;>(simp at this)
 ·rcases ty g cs T f hs D with rfl|rfl|⟨rfl,e⟩|rfl
  ·exact absurd Z JC
  ·exact absurd Z JC
  ·exact ⟨rfl,h.apk u Q g e⟩
  exact absurd Z JC
 ·rcases av g U with e|e
  ·exact h.apk u Q g e
  intro al;have:=(h.ur u Q).ud.il g al;omega
 ·rcases aQ.1 I with I|I
  ·refine jK.out (lim:=lim) ?_
   rcases aC m I with aB|⟨g,aD,c,cs,f,e1,ai,J,aj⟩
   ·exact .inl aB
   refine .inr ⟨g,aD,c,cs,f,e1,ai,(k.block g (lt_of_some J) (fun hs=> ?_)).trans J,aj⟩
   rcases hs with e|e|e|e
   ·subst e;have R:=h.blk;unfold aE at R;rw [R] at J;simp at J
   ·obtain ⟨V,C⟩:=nI h.ls e;unfold aE at C;rw [C] at J;simp at J
   ·obtain ⟨V,C⟩:=nI h.ks e;unfold aE at C;rw [C] at J;simp at J
   have:=(ab.lt g e).1;omega
  simp only [bi,dK,dP] at I
  rcases I with rfl|rfl|rfl|rfl
  ·exact h0
  ·exact h1
  ·exact h2
  exact ak
 ·rw [aZ]
  rcases aQ.1 I with I|I
  ·have:=h.mks m I;omega
  simp only [bi,dK,dP] at I
  rcases I with rfl|rfl|rfl|rfl<;>simp
section
abbrev Hl:=@List.replicate_append_replicate
abbrev wv(a0:ae):Obj:=.cells #[.string a0,.string a0] 9
abbrev wy(a0:ae):Obj:=.cells #[.string a0,.string a0,.string a0] 9
abbrev Bg(a0:Int):Obj:=.cells #[.int .i64 a0,.int .i64 a0,.int .i64 a0,.int .i64 a0] 3
variable {l:List ae}
def RB{M:ae}(A:k<l.length):(List.replicate k (Value.string M)++(dF l).drop k).set k (.string M)=List.replicate (k+1) (.string M)++(dF l).drop (k+1):=by
 have hl:(dF l).length=l.length:=by simp [dF]
 rw [dI aj,rA _ _ ar,vd,Nat.sub_self,List.set_cons_zero,List.replicate_succ'];simp
def VU{M:ae}(A:k<l.length):∃x,(List.replicate k (Value.string M)++(dF l).drop k)[k]? =some (.string x):=by
 refine ⟨l[k],?_⟩;rw [nz ar];simp [dF,A]
variable {lim m:Nat}
def JD{r:ag}{I:List ag}(h:w.ownsRow base e size r n xs)(k:bG (fun q=>v.ownBlock=some q) w w')(D:w.ownsRow lim 9 1 v m I)(C:e≠9):w'.ownsRow base e size r n xs:=
 ay h (fun g cs f _ A=>k.block g (lt_of_some A) (fun e'=>dH D A C e'.symm))
def Tryz.infoSts:(Tryz.prog.info? 22).map (fun i=>(i.zero,i.size,i.bytes))=some (some (.slice none 0 0),1,24):=by kernel_rfl
def VV{A:List (ag×Nat)}(h:WS base w b lv ir ib us A)(df:base<=lim)(dg:lim<=w.heap.size)(l:List ae)(bf:w.ownsRow lim 9 1 v l.length (dF l))(dO:l.length<=100)(cd:∀m∈A,jK lim w m.1 (nL m.2))(cb:∀k,ir.ownBlock=some k->k<lim)(dQ:A.length+4<=8796093022208)(cf:oU w):
  Calls prog 89 #[.pointer (some ⟨b,0,none⟩),v] w fun e w'=>e=.returned (.tuple #[])/\∃dv du co,WS base w' b lv dv du us co/\Below base w w'/\co.length=A.length+4:=by
 obtain ⟨i0,b8,ch,ci,cj⟩:=bK Tryz.infoStr;obtain ⟨dq,db,dl,dm,dp⟩:=bK Tryz.infoSts;obtain ⟨ds,dc,di,dj,dk⟩:=bK Tryz.infoInt;have a5:=ai b8;have a7:=ai ch;have a8:=ai ci;have a9:=ai cj;obtain ⟨cl,cm,rfl⟩:=ax h.ls;obtain ⟨a3,a4,rfl⟩:=ax h.ks;obtain ⟨U,R,rfl⟩:=ax bf;obtain ⟨dw,dy,rfl⟩:=ax h.l;obtain ⟨c0,c1,c2⟩:=three h.blk;have C:=ai (Dn A.length w aj cf);have H:=ai h;have aH:=ai bf;have cN:=ai cd;have cH:=ai cb;have dM:=h.blk.lt;generalize b6:nL A.length=M at*;have aR:=ai b6;clear h bf cd cb cf b8 ch ci cj b6;go_enter func89,ntmps89;go_wp2_with fail;refine C.u.mono ?_;rintro e w1 ⟨rfl,bc⟩;have aG:=ai bc;have dR:=bc.size;clear bc C c0 c1 c2;go_wp2_with fail
 go_loopw [6] (fun u wr=>∃k:Nat,k<=l.length/\u=.int .i64 k/\bG (fun q=>(Value.slice U l.length R).ownBlock=some q) w1 wr/\wr.ownsRow lim 9 1 (.slice U l.length R) l.length (List.replicate k (.string M)++(dF l).drop k)) (fun u _=>l.length-(intOf u).toNat)
 case atStart=>exact ⟨0,aj,rfl,bG.refl _ _,by simpa using aB aH.u aG.u⟩
 case round=>
  obtain ⟨k,V,rfl,aF,am⟩:=hrel
  by_cases b9:k<l.length
  ·have de:(k:Int)<(l.length:Int):=by omega
   obtain ⟨x,cg⟩:=VU (M:=M) b9;obtain ⟨g,c,e1,k0⟩:=aS am k _ cg;simp only [aI,bU] at e1;obtain ⟨rfl,rfl⟩:=e1;obtain ⟨dJ,b7,_⟩:=dx am;have dX:=b7.fz;have cR:=ai (oh am k (.string M));have cz:=ai (aF.set (show (fun q=>(Value.slice (some ⟨g,0,none⟩) l.length R).ownBlock=some q) (⟨g,k,none⟩:Addr).block from rfl) (.string M));have cS:=ai (RB (M:=M) b9);clear aF am b7 cg;go_wp2;go_roundw
   case rel=>exact ⟨k+1,aj,by go_num,cz.u,by rw [<-cS.u];exact cR.u⟩
   case measure=>simp [intOf];omega
  have de:¬((k:Int)<(l.length:Int)):=aj;have dd:k=l.length:=aj;subst dd;rw [ei (by simp [dF]),eh] at am;have c4:=ai ((bG.of_below (S:=fun q=>(Value.slice U l.length R).ownBlock=some q) aG.u).trans aF);have b0:=ai am;have K0:=ai (aF.blk (H.u.blk.below aG.u) (fun e=>own_ne (aB aH.u aG.u) (H.u.blk.below aG.u) au e.symm));have dT:=aF.size;clear aF am;have bL:=ai (b0.u.alloc (dn M));have bA:=ai (bu (B:=wr.heap.size) (cs:=#[.string M]) (t:=9) (fr:=(0,0)) (aE.new wr #[.string M] 9));have bE:=ai (show ∀u∈([.string M]:List ag),u.oneCell'=true from by
   intro u J;simp at J;subst J
   rfl)
  have bP:=ai (show l.length+1<=maxLen from by unfold maxLen;omega);have bp:=ai (show (l.length+1)*16<=140737488355328 from aj);have bk:=ai (show lim<=(wr.alloc (dn M)).heap.size from aM);have bv:=ai (show (wr.alloc (dn M)).heap.size=wr.heap.size+1 from ar);go_wp2_with (at_builtin;go_must (refine ie _ rfl _ _ 22 rfl lim 9 i0 _ 16 underlying22 a5.u a7.u a8.u a9.u rfl (.slice U l.length R) l.length (List.replicate l.length (.string M)) rfl bL.u ⟨wr.heap.size,0,none⟩ 1 1 [.string M] rfl rfl bA.u bE.u au bP.u bp.u bk.u (wr.heap.size+1) bv.u ?Y7))
  case Y7=>
   intro g5 aT w5 cp a1 c8 dY cu dt;have aY:=(az wr.heap.size wr).alloc aD (dn M);have c5:=ai ((c4.u.trans (.of_below aY)).trans (dr a1 (fun k V=>V)));have b2:=ai cu;have D:=K0.u.below aY;have cU:=ai (show aE w5 b _ 31 from (a1.block b D.lt (own_ne (b0.u.alloc (dn M)) D au)).trans D);have bX:=ai (ep.of_own (n:=l.length+1) (t:=M) (by rw [show List.replicate (l.length+1) (Value.string M)=List.replicate l.length (.string M)++[.string M] by rw [show ([.string M]:List ag)=List.replicate 1 (.string M) from rfl,Hl]];exact cp) aj);have dh:∀u∈([.string M]:List ag),u=.string M:=by
    intro u J
    simpa using J
   have dU:wr.heap.size<=w5.heap.size:=Nat.le_trans aY.size a1.size
   clear cu D cp a1 c8 dt aY bL bA bE bP bp bk bv dh;have bM:=ai (b2.u.alloc (wv M));have bB:=ai (bu (B:=w5.heap.size) (cs:=#[.string M,.string M]) (t:=9) (fr:=(0,0)) (aE.new w5 #[.string M,.string M] 9));have bF:=ai (show ∀u∈([.string M,.string M]:List ag),u.oneCell'=true from by
    intro u J;simp at J;subst J
    rfl)
   have bQ:=ai (show l.length+2<=maxLen from by unfold maxLen;omega);have bq:=ai (show (l.length+2)*16<=140737488355328 from aj);have bl:=ai (show lim<=(w5.alloc (wv M)).heap.size from aM);have bw:=ai (show (w5.alloc (wv M)).heap.size=w5.heap.size+1 from ar);go_wp2_with (at_builtin;go_must (refine ie _ rfl _ _ 22 rfl lim 9 i0 _ 16 underlying22 a5.u a7.u a8.u a9.u rfl (.slice U l.length R) l.length (List.replicate l.length (.string M)) rfl bM.u ⟨w5.heap.size,0,none⟩ 2 2 [.string M,.string M] rfl rfl bB.u bF.u au bQ.u bq.u bl.u (w5.heap.size+1) bw.u ?Y8))
   case Y8=>
    intro ah ad Y cq aO c9 dZ cw ck;have aK:=(az w5.heap.size w5).alloc aD (wv M);have c6:=ai ((c5.u.trans (.of_below aK)).trans (dr aO (fun k V=>V)));have b3:=ai cw;have D:=cU.u.below aK;have cV:=ai (show aE Y b _ 31 from (aO.block b D.lt (own_ne (b2.u.alloc (wv M)) D au)).trans D);have bZ:=ai (ep.of_own (n:=l.length+2) (t:=M) (by rw [show List.replicate (l.length+2) (Value.string M)=List.replicate l.length (.string M)++[.string M,.string M] by rw [show ([.string M,.string M]:List ag)=List.replicate 2 (.string M) from rfl,Hl]];exact cq) aj);have ce:∀u∈([.string M,.string M]:List ag),u=.string M:=by
     intro u J
     simpa using J
    have dV:w5.heap.size<=Y.heap.size:=Nat.le_trans aK.size aO.size
    have bY:=ai ((bX.u.frame (fun g cs f I=>aK.block g (lt_of_some I))).app aO ce ck);clear cw D cq aO c9 ck aK bM bB bF bQ bq bl bw ce bX;have bO:=ai (b3.u.alloc (wy M));have bC:=ai (bu (B:=Y.heap.size) (cs:=#[.string M,.string M,.string M]) (t:=9) (fr:=(0,0)) (aE.new Y #[.string M,.string M,.string M] 9));have bH:=ai (show ∀u∈([.string M,.string M,.string M]:List ag),u.oneCell'=true from by
     intro u J;simp at J;subst J
     rfl)
    have bR:=ai (show l.length+3<=maxLen from by unfold maxLen;omega);have br:=ai (show (l.length+3)*16<=140737488355328 from aj);have bn:=ai (show lim<=(Y.alloc (wy M)).heap.size from aM);have bx:=ai (show (Y.alloc (wy M)).heap.size=Y.heap.size+1 from ar);go_wp2_with (at_builtin;go_must (refine ie _ rfl _ _ 22 rfl lim 9 i0 _ 16 underlying22 a5.u a7.u a8.u a9.u rfl (.slice U l.length R) l.length (List.replicate l.length (.string M)) rfl bO.u ⟨Y.heap.size,0,none⟩ 3 3 [.string M,.string M,.string M] rfl rfl bC.u bH.u au bR.u br.u bn.u (Y.heap.size+1) bx.u ?Y9))
    case Y9=>
     intro ak af Z cr aC da d0 cx bg;have an:=(az Y.heap.size Y).alloc aD (wy M);have aX:=ai ((c6.u.trans (.of_below an)).trans (dr aC (fun k V=>V)));have c7:=ai cx;have D:=cV.u.below an;have aW:=ai (show aE Z b _ 31 from (aC.block b D.lt (own_ne (b3.u.alloc (wy M)) D au)).trans D);have c3:=ai (ep.of_own (n:=l.length+3) (t:=M) (by rw [show List.replicate (l.length+3) (Value.string M)=List.replicate l.length (.string M)++[.string M,.string M,.string M] by rw [show ([.string M,.string M,.string M]:List ag)=List.replicate 3 (.string M) from rfl,Hl]];exact cr) aj);have be:∀u∈([.string M,.string M,.string M]:List ag),u=.string M:=by
      intro u J
      simpa using J
     have dW:Y.heap.size<=Z.heap.size:=Nat.le_trans an.size aC.size
     have cY:=ai ((bY.u.frame (fun g cs f I=>an.block g (lt_of_some I))).app aC be bg);have cZ:=ai ((bZ.u.frame (fun g cs f I=>an.block g (lt_of_some I))).app aC be bg);have cX:=ai (ep.of_own c7.u aj);obtain ⟨dz,dA,dB⟩:=three aW.u;have dC:=aW.u.fz;have dL:=aW.u.lt;have cW:=ai (JD H.u.ls aX.u aH.u au);have aV:=ai (cW.u.alloc (.cells #[.slice U l.length R,.slice (some ⟨g5,0,none⟩) (l.length+1) aT,.slice (some ⟨ah,0,none⟩) (l.length+2) ad,.slice (some ⟨ak,0,none⟩) (l.length+3) af] 22));clear cx D cr aC da bg an bO bC bH bR br bn bx be bZ bY;have bD:=ai (bu (B:=Z.heap.size) (cs:=#[.slice U l.length R,.slice (some ⟨g5,0,none⟩) (l.length+1) aT,.slice (some ⟨ah,0,none⟩) (l.length+2) ad,.slice (some ⟨ak,0,none⟩) (l.length+3) af]) (t:=22) (fr:=(0,0)) (aE.new Z #[.slice U l.length R,.slice (some ⟨g5,0,none⟩) (l.length+1) aT,.slice (some ⟨ah,0,none⟩) (l.length+2) ad,.slice (some ⟨ak,0,none⟩) (l.length+3) af] 22));have bJ:=ai (show ∀u∈([.slice U l.length R,.slice (some ⟨g5,0,none⟩) (l.length+1) aT,.slice (some ⟨ah,0,none⟩) (l.length+2) ad,.slice (some ⟨ak,0,none⟩) (l.length+3) af]:List ag),u.oneCell'=true from by
      intro u J;simp only [bi,dK,dP] at J
      rcases J with rfl|rfl|rfl|rfl<;>rfl)
     have bS:=ai (show A.length+4<=maxLen from by unfold maxLen;omega);have bs:=ai (show ((A.length+4)+(A.length+4) / 4+192)*24<=281474976710656 from aj);have bo:=ai (show base<=(Z.alloc (.cells #[.slice U l.length R,.slice (some ⟨g5,0,none⟩) (l.length+1) aT,.slice (some ⟨ah,0,none⟩) (l.length+2) ad,.slice (some ⟨ak,0,none⟩) (l.length+3) af] 22)).heap.size from aM);go_wp2_with (at_builtin;go_must (refine wpList_append_own_wide _ rfl _ _ 28 rfl base 22 dq _ 1 24 underlying28 db dl dm dp rfl au (.slice cl A.length cm) A.length (A.map Prod.fst) rfl aV.u ⟨Z.heap.size,0,none⟩ 4 4 [.slice U l.length R,.slice (some ⟨g5,0,none⟩) (l.length+1) aT,.slice (some ⟨ah,0,none⟩) (l.length+2) ad,.slice (some ⟨ak,0,none⟩) (l.length+3) af] rfl rfl bD.u bJ.u bS.u bs.u bo.u ?Za))
     case Za=>
      intro d2 Q bh aP _;obtain ⟨ab,ac,rfl⟩:=ax bh;have ba:=(az Z.heap.size Z).alloc aD (.cells #[.slice U l.length R,.slice (some ⟨g5,0,none⟩) (l.length+1) aT,.slice (some ⟨ah,0,none⟩) (l.length+2) ad,.slice (some ⟨ak,0,none⟩) (l.length+3) af] 22);have D:=aW.u.below ba;have aJ:aE Q b _ 31:=(aP.block b D.lt (own_ne aV.u D au)).trans D;have bV:=JD H.u.ks aX.u aH.u au;have bW:Q.ownsRow base 3 1 (.slice a3 A.length a4) A.length (A.map fun m=> .int .i64 m.2):=ay (bV.alloc (.cells #[.slice U l.length R,.slice (some ⟨g5,0,none⟩) (l.length+1) aT,.slice (some ⟨ah,0,none⟩) (l.length+2) ad,.slice (some ⟨ak,0,none⟩) (l.length+3) af] 22)) (fun g cs f _ I=>aP.block g (lt_of_some I) (dH aV.u I au));obtain ⟨dD,dE,dG⟩:=three aJ;have dI:=aJ.fz;have bz:=ai aJ;have cG:=ai (bN bW aJ au 1 (.slice ab (A.length+4) ac));have cP:=ai bh;have bt:=ai aP;have bj:=ai ba;have dS:Z.heap.size+1<=Q.heap.size:=by have:=aP.size;simp at this;exact this
      clear bh aP ba D aJ bV bW dz dA dB dC bD bJ bS bs bo;have a6:=ai (cG.u.alloc (Bg A.length));have cO:=ai (bu (B:=Q.heap.size) (cs:=#[.int .i64 A.length,.int .i64 A.length,.int .i64 A.length,.int .i64 A.length]) (t:=3) (fr:=(0,0)) (aE.new' (Q.setCell ⟨b,1,none⟩ (.slice ab (A.length+4) ac)) #[.int .i64 A.length,.int .i64 A.length,.int .i64 A.length,.int .i64 A.length] 3 Q.heap.size M7));have cQ:=ai (show ∀u∈([.int .i64 A.length,.int .i64 A.length,.int .i64 A.length,.int .i64 A.length]:List ag),u.oneCell'=true from by
       intro u J;simp at J;subst J
       rfl)
      have cT:=ai (show A.length+4<=maxLen from by unfold maxLen;omega);have cC:=ai (show (A.length+4)*8<=140737488355328 from aj);have cA:=ai (show base<=((Q.setCell ⟨b,1,none⟩ (.slice ab (A.length+4) ac)).alloc (Bg A.length)).heap.size from aM);have cD:=ai (show ((Q.setCell ⟨b,1,none⟩ (.slice ab (A.length+4) ac)).alloc (Bg A.length)).heap.size=Q.heap.size+1 from ar);go_wp2_with (at_builtin;go_must (refine bI _ rfl _ _ 29 rfl base 3 ds _ 1 8 underlying29 dc di dj dk rfl au (.slice a3 A.length a4) A.length (A.map fun m=> .int .i64 m.2) rfl a6.u ⟨Q.heap.size,0,none⟩ 4 4 [.int .i64 A.length,.int .i64 A.length,.int .i64 A.length,.int .i64 A.length] rfl rfl cO.u cQ.u au cT.u cC.u cA.u (Q.heap.size+1) cD.u ?Zb))
      case Zb=>
       intro aw ap aQ ct a2 b4 d1;have bT:=bz.u.set 1 (.slice ab (A.length+4) ac);have aZ:=(az _ (Q.setCell ⟨b,1,none⟩ (.slice ab (A.length+4) ac))).alloc aD (Bg A.length);have D:=bT.below aZ;have al:aE aQ b #[.slice dw us.length dy,.slice ab (A.length+4) ac,.slice a3 A.length a4] 31:=(a2.block b D.lt (own_ne a6.u D au)).trans D;obtain ⟨d3,d4,d5⟩:=three al;have d6:=al.fz;have fr:∀(g:Nat)(cs:Array ag)(T:TypeId)(f:Nat×Nat),Q.heap[g]? =some (Obj.cells cs T f)->T≠31->T≠3->(aQ.setCell ⟨b,2,none⟩ (.slice (some ⟨aw,0,none⟩) (A.length+4) ap)).heap[g]? =Q.heap[g]? :=fun g cs T f I t1 t2=>by
        have e1:(Q.setCell ⟨b,1,none⟩ (.slice ab (A.length+4) ac)).heap[g]? =Q.heap[g]? :=dN _ _ _ _ (fun (e:g=b)=>by
         have:=bz.u;subst e;unfold aE at this;rw [this] at I
         cases I
         exact t1 rfl)
        have av:=(aZ.block g (by rw [show (Q.setCell ⟨b,1,none⟩ (.slice ab (A.length+4) ac)).heap.size=Q.heap.size by simp];exact lt_of_some I)).trans e1;have bb:=(a2.block g (lt_of_some (av.trans I)) (dH a6.u (av.trans I) t2)).trans av;exact (dN _ _ _ _ (fun (e:g=b)=>by
         subst e;unfold aE at al;rw [al,I] at bb
         cases bb
         exact t1 rfl)).trans bb
       have aN:∀(g:Nat)(cs:Array ag)(f:Nat×Nat),Z.heap[g]? =some (Obj.cells cs 9 f)->(aQ.setCell ⟨b,2,none⟩ (.slice (some ⟨aw,0,none⟩) (A.length+4) ap)).heap[g]? =Z.heap[g]? :=fun g cs f I=>by
        have e1:=bj.u.block g (lt_of_some I);have av:=(bt.u.block g (lt_of_some (e1.trans I)) (dH aV.u (e1.trans I) au)).trans e1;exact (fr g cs _ f (av.trans I) au au).trans av
       have cI:=ai (show (aQ.setCell ⟨b,2,none⟩ (.slice (some ⟨aw,0,none⟩) (A.length+4) ap)).ownsRow base 22 1 (.slice ab (A.length+4) ac) (A.length+4) _ from ay cP.u (fun g cs f _ I=>fr g cs _ f I au au));have cF:=ai (bN ct al au 2 (.slice (some ⟨aw,0,none⟩) (A.length+4) ap));have cE:=ai (al.set 2 (.slice (some ⟨aw,0,none⟩) (A.length+4) ap));have cJ:=ai (cX.u.frame aN);have cK:=ai (cY.u.frame aN);have cL:=ai (cZ.u.frame aN);have cM:=ai (c3.u.frame aN);have b5:bG (OS b (.slice cl A.length cm) (.slice a3 A.length a4) (.slice U l.length R)) w (aQ.setCell ⟨b,2,none⟩ (.slice (some ⟨aw,0,none⟩) (A.length+4) ap)):=
        (((((aX.u.mono (fun k e=> .inr (.inr (.inr e)))).trans (.of_below bj.u)).trans (dr bt.u (fun k V=> .inr (.inl V)))).set (a:=⟨b,1,none⟩) (.inl rfl) _).trans (.of_below aZ)).trans (dr a2 (fun k V=> .inr (.inr (.inl V)))) |>.set (a:=⟨b,2,none⟩) (.inl rfl) _
       have cB:=ai b5;have cy:=ai b4;clear ct a2 b4 aZ D bT al fr aN b5 dD dE dG dI;go_wp2;go_end0;refine ⟨rfl,_,_,LR H.u df dg aH.u cN.u cH.u cB.u cE.u cI.u cF.u ?_ ?_ ?_ ?_ ?_⟩
       ·intro k V;simp only [Value.ownBlock,aL] at V;subst V
        rcases cy.u with e|e
        ·exact .inl e
        right;have h1:=aX.u.size;omega
       ·rw [aR.u];exact cJ.u
       ·rw [aR.u];exact cK.u
       ·rw [aR.u];exact cL.u
       rw [aR.u];exact cM.u
end
def aa9 (h:aA:=by
 rw [eo,aH hit];rfl):aA:=h
def ep.form{t}(h:ep w v t):∃a n c,v=.slice a n c/\n<=1000/\∀k,k<n->∃g,a=some ⟨g,0,none⟩/\w.cell? ⟨g,k,none⟩=some (.string t):=by
 rcases h with rfl|⟨g,n,c,cs,f,rfl,h2,C,D⟩
 ·exact ⟨none,0,0,rfl,aj,fun k A=>aj⟩
 exact ⟨_,n,c,rfl,C,fun k A=>⟨g,rfl,by simp [World.cell?,h2,D k A]⟩⟩
def LU{A}(h:WS base w b lv ir ib us A)(aG:A.length<=8796093022208)(aw:oU w)(h2:2<w.heap.size):
  Calls prog 48 #[.pointer (some ⟨b,0,none⟩)] w fun e w'=>e=.returned (.bool true)/\an w w':=by
 obtain ⟨aM,aN,rfl⟩:=ax h.ls;obtain ⟨aK,aL,rfl⟩:=ax h.ks;obtain ⟨aO,aP,rfl⟩:=ax h.l;have H:=ai h;have ad:=ai aw;go_enter func48,ntmps48;go_wp2_with fail
 go_loopw [3] (fun u wr=>∃i:Nat,i<=A.length/\u=.int .i64 i/\an w wr) (fun u _=>A.length-(intOf u).toNat)
 case atStart=>exact ⟨0,aj,rfl,az _ _⟩
 case round=>
  obtain ⟨i,hi,rfl,R⟩:=hrel;obtain ⟨I,ag⟩:∃I,I=wr:=⟨_,rfl⟩;subst ag;have D:=H.u.below R;obtain ⟨c0,c1,c2⟩:=three D.blk;have Q:=ai R
  by_cases hit:i<A.length
  ·have ap:(i:Int)<(A.length:Int):=by omega
   obtain ⟨af,d1,e1,k1⟩:=aS D.ls i _ aa9;obtain ⟨aE,d2,V,ay⟩:=aS D.ks i _ aa9;simp only [aI,bU] at e1 V;obtain ⟨rfl,rfl⟩:=e1;obtain ⟨rfl,rfl⟩:=V;have Y:=D.mrk _ (bn hit);have av:=D.mks _ (bn hit);generalize A[i]=m at*;obtain ⟨mv,K⟩:=m;simp only at k1 ay Y av;obtain ⟨aB,n,aC,rfl,hn,al⟩:=Y.form;have C:=ai (Dn K I aj (ad.u.below R h2));have ab:=ai al;have ac:=ai k1;have ae:=ai D;generalize nL K=M at*;go_wp2_with fail;refine C.u.mono ?_;rintro e w1 ⟨rfl,ak⟩;have Z:=ai ak;go_wp2_with fail
   go_loopw [5] (fun u aD=>∃k:Nat,k<=n/\u=.int .i64 k/\an I aD) (fun u _=>n-(intOf u).toNat)
   case atStart=>exact ⟨0,aj,rfl,Z.u⟩
   case round=>
    obtain ⟨k,aF,rfl,J⟩:=hrel;have ah:=ae.u.below J;obtain ⟨c0,c1,c2⟩:=three ah.blk;have k1:wr.cell? ⟨af,i,none⟩=some (.slice aB n aC):=am ac.u J;have U:=ai J
    by_cases au:k<n
    ·have ar:(k:Int)<(n:Int):=by omega
     obtain ⟨g,rfl,k3⟩:=ab.u k au;have aJ:=am k3 J;go_wp2;go_roundw
     case rel=>exact ⟨k+1,aj,by go_num,U.u⟩
     case measure=>simp [intOf];omega
    have ar:¬((k:Int)<(n:Int)):=aj;go_wp2;go_roundw
    case rel=>exact ⟨i+1,aj,by go_num,Q.u.trans (U.u.mono Q.u.size)⟩
    case measure=>simp [intOf];omega
  have ap:¬((i:Int)<(A.length:Int)):=aj;go_wp2;go_ret;exact ⟨rfl,Q.u⟩
def gD(base b:Nat)(A n:Nat)(w:af)(e:Ending)(w':af):Prop:=e=.returned (.bool true)/\∃lv ir ib us h,WS base w' b lv ir ib us h/\Below base w w'/\h.length<=n+4/\1<=us.length/\us.length<=A+1
def Tryz.infoPr:(Tryz.prog.info? 86).map (fun i=>(i.zero,i.size,i.bytes))=some (some (.agg #[.pointer none,.pointer none]),2,16):=by kernel_rfl
variable {g5 aT:Nat} {w5:af} {o:Obj}
def WS.push{ms}(h:WS base w b lv ir ib us ms)(V:an w W)(al:UR W u)(ab:∀k,US u k->w.heap.size<=k)(ad:∀k,u.I k->w.heap.size<=k)(D:(W.alloc o).grownBy w5 lv.ownBlock)(aj:w5.ownsRow base 86 2 (.slice (some ⟨g5,0,none⟩) (us.length+1) aT) (us.length+1) (us.flatMap VR++VR u)):
  WS base (w5.setCell ⟨b,0,none⟩ (.slice (some ⟨g5,0,none⟩) (us.length+1) aT)) b (.slice (some ⟨g5,0,none⟩) (us.length+1) aT) ir ib (us++[u]) ms/\Below base w (w5.setCell ⟨b,0,none⟩ (.slice (some ⟨g5,0,none⟩) (us.length+1) aT)):=by
 have b1:=V.alloc V.size o;have h1:=h.below b1;have am:UR (W.alloc o) u:=al.below (bj.alloc aD o);have R:base<=w.heap.size:=by have:=h.low;have:=h.blk.lt;omega
 have U:aE w5 b #[lv,ir,ib] 31:=(D.block b h1.blk.lt (own_ne h1.l h1.blk au)).trans h1.blk;obtain ⟨F,hF⟩:∃F,w5.setCell ⟨b,0,none⟩ (.slice (some ⟨g5,0,none⟩) (us.length+1) aT)=F:=⟨_,rfl⟩;have Q:bG (fun k=>k=b\/lv.ownBlock=some k) (W.alloc o) F:=by rw [<-hF];exact (dr D (fun k C=> .inr C)).set (a:=⟨b,0,none⟩) (.inl rfl) _
 have ty:∀(g:Nat)(cs:Array ag)(T:TypeId)(f:Nat×Nat),(g=b\/lv.ownBlock=some g)->(W.alloc o).heap[g]? =some (Obj.cells cs T f)->T=31\/T=86:=fun g cs T f hs A=>by
  rcases hs with rfl|e
  ·have:=h1.blk;unfold aE at this;rw [this] at A
   cases A
   exact .inl rfl
  obtain ⟨av,J⟩:=nI h1.l e;unfold aE at J;rw [J] at A
  cases A
  exact .inr rfl
 have keep:∀(v:eU),UR (W.alloc o) v->UR F v:=fun v hv=>hv.keep Q (fun g D hs=>by
   obtain ⟨cs,T,J,af⟩:=hv.ty D;have:=ty g cs T _ hs J
   rcases af with rfl|rfl|rfl|rfl<;>simp at this)
  (fun g cs T f hs A ak=>by
   rcases ty g cs T f hs A with rfl|rfl<;>exact absurd ak JC)
 have key:∀(g:Nat)(cs:Array ag)(T:TypeId)(f:Nat×Nat),(W.alloc o).heap[g]? =some (Obj.cells cs T f)->T≠31->T≠86->F.heap[g]? =(W.alloc o).heap[g]? :=fun g cs T f A t1 t2=>Q.block g (lt_of_some A) (fun hs=>by
  rcases ty g cs T f hs A with e|e
  ·exact t1 e
  exact t2 e)
 have Z:=bN aj U au 0 (.slice (some ⟨g5,0,none⟩) (us.length+1) aT);have Y:=U.set 0 (.slice (some ⟨g5,0,none⟩) (us.length+1) aT);rw [hF] at Z Y ⊢;refine ⟨⟨Y,h.low,by simpa using Z,ay h1.ls (fun g cs f _ A=>key g cs _ f A au au),ay h1.ks (fun g cs f _ A=>key g cs _ f A au au),fun v hv=> ?_,fun v hv=> ?_,?_,fun v hv=> ?_,fun m ai=>(h1.mrk m ai).frame (fun g cs f A=>key g cs _ f A au au),h.mks⟩,?_⟩
 ·rcases aQ.1 hv with hv|hv
  ·exact keep v (h1.ur v hv)
  rw [aR] at hv;subst hv;exact keep v am
 ·rcases aQ.1 hv with hv|hv
  ·exact h.lowu v hv
  rw [aR] at hv;subst hv;exact fun k C=>aP R (ab k C)
 ·refine AG.2 ⟨h.ap,ar,fun v hv q ac k C ah=> ?_⟩;rw [aR] at ac;subst ac;have h1:=(h.ur v hv).lt C;have h2:=ab k ah;omega
 ·rcases aQ.1 hv with hv|hv
  ·exact h.apk v hv
  rw [aR] at hv;subst hv;intro k C ae;have h1:=(h.ks.lt k C).2;have h2:=ad k ae;omega
 ·exact (b1.mono R).trans (Q.below (aP R b1.size) (fun g D=>by
   rcases D with rfl|e
   ·exact h.low
   exact (h.l.lt g e).1))
def RD(base b:Nat)(n m:Nat)(r:Bool)(w:af)(e:Ending)(w':af):Prop:=e=.returned (.bool true)/\∃lv ir ib us h,WS base w' b lv ir ib us h/\Below base w w'/\h.length=m/\us.length=if r then n+1 else n
def Hm{ms}(h:WS base w b lv ir ib us ms)(s)(V:Laid w)(o c)(A:fq s=.error (o,c)):
  Calls prog 44 #[.pointer (some ⟨b,0,none⟩),.string s] w (RD base b us.length ms.length false w):=by
 have hc:=(ou A w).1;have I:=ai (Rm s w o c A hc V);have Q:=ai (fun w'=>P7 s w' c _ hc (ou A w').2.choose_spec);have H:=ai h;have Z:((c:Int) != 0)=true:=hP.2 aj;have Y:base<=w.heap.size:=by have:=h.low;have:=h.blk.lt;omega
 clear h A V;go_enter func44,ntmps44;go_wp2_with fail;refine I.u.mono ?_;rintro e w1 ⟨rfl,R⟩;have C:=ai R;have J:=ai (Q.u w1);clear R I Q;go_wp2_with fail;refine J.u.mono ?_;rintro e ab ⟨rfl,U⟩;have D:=ai (C.u.trans (U.mono C.u.size));clear U J;go_wp2;go_ret;exact ⟨rfl,_,_,_,_,_,H.u.below D.u,D.u.mono Y,rfl,rfl⟩
def zk{ms}(h:WS base w b lv ir ib us ms)(s)(aC:Laid w)(ts)(ad:fq s=.ok ts)(aZ:us.length+1<=8796093022208):
  Calls prog 44 #[.pointer (some ⟨b,0,none⟩),.string s] w (RD base b us.length ms.length true w):=by
 obtain ⟨i0,aD,aN,aO,aQ⟩:=bK Tryz.infoPr;obtain ⟨aR,aS,rfl⟩:=ax h.l;have ah:=ai (VO YN P2 AJ s w ts ad aC);have ak:=ai (fun w'=>Vu s w' (XS ts (fun k=>w'.heap.size<=k)) (fun bm w w' h k=>h.kd k) (ze ad w'));have H:=ai h;have aX:base<=w.heap.size:=by have:=h.low;have:=h.blk.lt;omega
 go_enter func44,ntmps44;go_wp2_with fail;refine ah.u.mono ?_;rintro e w1 ⟨mv,J,bm,tl,x,rfl,aH,aF,aJ,Z,aI⟩;have Q:=ai Z;have aj:=ai (ak.u w1);have ae:=Z.size;have ay:=ai (⟨aH,⟨bm,tl,aF⟩,aJ⟩:MY w1 x mv J (.slice none 0 0) ts []);go_wp2_with fail;refine aj.u.mono ?_;rintro e A ⟨Y,y,rfl,aB,aK,ab,aL⟩;have I:=ai (Q.u.trans (ab.mono Q.u.size));have az:=ai (⟨ay.u.keep (S:=fun _=>False) (.of_below ab) (fun _ _ e=>e) (fun _ _ _ _ e=>e.elim),⟨aB,aK.fin,fun k D=>D.2,ar⟩,D1,fun _ h=>by cases h⟩:UR A ⟨x,y,Y,mv,J,.slice none 0 0,.slice none 0 0,ts,[],[],fun k=>w1.heap.size<=k/\k<A.heap.size⟩);have C:=ai (H.u.below I.u);obtain ⟨c0,c1,c2⟩:=three C.u.blk;have aW:=C.u.blk.lt;have U:=ai (C.u.l.alloc (ko (some ⟨x,0,none⟩) (some ⟨y,0,none⟩)));have ap:=ai (bu (B:=A.heap.size) (cs:=#[.pointer (some ⟨x,0,none⟩),.pointer (some ⟨y,0,none⟩)]) (t:=86) (fr:=(0,0)) (aE.new A _ _));have av:=ai (show ∀u∈([.pointer (some ⟨x,0,none⟩),.pointer (some ⟨y,0,none⟩)]:List ag),u.oneCell'=true from by
  intro u af;simp only [bi,dK,dP] at af
  rcases af with rfl|rfl<;>rfl)
 have aw:=ai (by unfold maxLen;omega:us.length+1<=maxLen);have am:=ai (by omega:(us.length+1)*16<=140737488355328);have al:=ai (by have:=I.u.size;simp;omega:base<=(A.alloc (ko (some ⟨x,0,none⟩) (some ⟨y,0,none⟩))).heap.size);have an:=ai (by simp:(A.alloc (ko (some ⟨x,0,none⟩) (some ⟨y,0,none⟩))).heap.size=A.heap.size+1);go_wp2_with (at_builtin;go_must (refine bI _ rfl _ _ 27 rfl base 86 i0 _ 2 16 underlying27 aD aN aO aQ rfl au (.slice aR us.length aS) us.length (us.flatMap VR) rfl U.u ⟨A.heap.size,0,none⟩ 1 1 [.pointer (some ⟨x,0,none⟩),.pointer (some ⟨y,0,none⟩)] rfl rfl ap.u av.u au aw.u am.u al.u (A.heap.size+1) an.u ?hrest))
 case hrest=>
  intro g5 aT w5 aG ac aV aY;have V:aE w5 b _ 31:=(ac.block b aM (own_ne U.u (C.u.blk.alloc _) au)).trans (C.u.blk.alloc _);obtain ⟨a2,a3,a4⟩:=three V;have a5:=V.fz;have R:=ai (WS.push (u:=⟨x,y,Y,mv,J,.slice none 0 0,.slice none 0 0,ts,[],[],fun k=>w1.heap.size<=k/\k<A.heap.size⟩) H.u I.u az.u (fun k D=>by
   rcases D with (e|⟨n,c,e⟩)|(e|⟨n,c,e⟩)
   ·subst e;exact aI
   ·cases e
   ·subst e;exact aP ae aL
   cases e) (fun k D=>aP ae D.1) ac aG)
  go_wp2;go_ret;exact ⟨rfl,_,_,_,_,_,R.u.1,R.u.2,rfl,ar⟩
def ja(c:Int)(n:Nat):Nat:=(if c<0 then (-(c+1)).toNat else c.toNat) % n
def D4(c)(h:0<n):ja c n<n:=Nat.mod_lt _ h
def D5(c:Int)(n:Nat)(w)(h0: -9223372036854775808<=c)(h1:c<=9223372036854775807)(I:0<n)(J:n<=9223372036854775807):
  Calls prog 45 #[.int .i64 c,.int .i64 n] w fun e w'=>e=.returned (.int .i64 (ja c n))/\w'=w:=by
 unfold ja
 by_cases hc:c<0
 ·rw [if_pos hc];have e1:IntKind.i64.wrap (c+1)=c+1:=IntWalk.i64_in _ ⟨aj,aj⟩;have D:IntKind.i64.wrap (-(c+1))= -(c+1):=IntWalk.i64_in _ ⟨aj,aj⟩;obtain ⟨m,C⟩:∃m:Nat,-(c+1)=m:=⟨(-(c+1)).toNat,aj⟩;have A:(m:Int).tmod (n:Int)=((m % n:Nat):Int):=rfl;rw [C,j4];go_enter func45,ntmps45;go_wp2;go_ret;exact ⟨rfl,rfl⟩
 ·rw [if_neg hc];obtain ⟨m,rfl⟩:∃m:Nat,c=m:=⟨c.toNat,aj⟩;have A:(m:Int).tmod (n:Int)=((m % n:Nat):Int):=rfl;rw [j4];go_enter func45,ntmps45;go_wp2;go_ret;exact ⟨rfl,rfl⟩
def RE{ms}(h:WS base w b lv ir ib us ms)(ag:1<=us.length)(ee s rr ww)(af:us.length+1<=8796093022208)(Y:Laid w):
  Calls prog 15 #[.pointer (some ⟨b,0,none⟩),.agg #[.int .i64 2,.int .i64 ee,.string s,.string rr,.string ww]] w (gD base b us.length ms.length w):=by
 have D:=(az w.heap.size w).alloc aD (.cells #[.int .i64 2,.int .i64 ee,.string s,.string rr,.string ww] 34);have R:=h.below D;have Z:=Y.below D Y.lt;have C:Calls prog 44 #[.pointer (some ⟨b,0,none⟩),.string s] (w.alloc (.cells #[.int .i64 2,.int .i64 ee,.string s,.string rr,.string ww] 34)) fun e w'=>gD base b us.length ms.length w e w':=by
  have U:base<=w.heap.size:=by have:=h.low;have:=h.blk.lt;omega
  cases ab:fq s with
  |error er=>
   obtain ⟨o,c⟩:=er;refine (Hm R s Z o c ab).mono fun e w' ⟨I,lv,ir,ib,Q,J,h1,h2,ae,A⟩=>⟨I,lv,ir,ib,Q,J,h1,(D.mono U).trans h2,aj,by simp at A;omega,by simp at A;omega⟩
  |ok ts=>
   refine (zk R s Z ts ab af).mono fun e w' ⟨I,lv,ir,ib,Q,J,h1,h2,ae,A⟩=>⟨I,lv,ir,ib,Q,J,h1,(D.mono U).trans h2,aj,by simp at A;omega,by simp at A;omega⟩
 have ac:=ai C;go_enter func15,ntmps15;go_wp2_with fail;refine ac.u.mono ?_;rintro e ah V;have ad:=ai V;obtain ⟨rfl,_⟩:=V;go_wp2;go_ret;exact ad.u
def nW{ms}(h:WS base w b lv ir ib us ms)(Y:1<=us.length)(kd ee s rr ww)(I:kd=3\/kd=4\/kd=5)(hs:s.size<=maxLen)(au: -9223372036854775808<=ee)(av:ee<=9223372036854775807)(aK:us.length+1<=8796093022208)(J:Laid w)(V:mT w)(h1:1<w.heap.size):
  Calls prog 15 #[.pointer (some ⟨b,0,none⟩),.agg #[.int .i64 kd,.int .i64 ee,.string s,.string rr,.string ww]] w (gD base b us.length ms.length w):=by
 obtain ⟨aL,aB,rfl⟩:=ax h.l;have U:ja ee us.length<us.length:=D4 ee Y;obtain ⟨g,c,e1,hc⟩:=bf VR 2 (fun _=>rfl) h.l (ja ee us.length) us[ja ee us.length] (aH U);simp only [aI,bU] at e1;obtain ⟨rfl,rfl⟩:=e1;have hi:us[ja ee us.length]? =some us[ja ee us.length]:=aH U;generalize us[ja ee us.length]=u at*;have ab:=ai (fun w'=>D5 ee us.length w' au av aj aj);generalize ja ee us.length=i at*;have D:=(az w.heap.size w).alloc aD (mE kd ee s rr ww);have A:=ai (aE.new w #[.int .i64 kd,.int .i64 ee,.string s,.string rr,.string ww] 34);have ae:=ai (am (show w.cell? ⟨g,i*2,none⟩=some (.pointer (some ⟨u.x,0,none⟩)) from hc 0 _ aj rfl) D);have af:=ai (am (show w.cell? ⟨g,i*2+1,none⟩=some (.pointer (some ⟨u.y,0,none⟩)) from hc 1 _ aj rfl) D);have ac:=ai (am (three h.blk).1 D);have Q:=ai D;have ak:base<=w.heap.size:=by have:=h.low;have:=h.blk.lt;omega
 have C:=ai (fun W' (k:an w W')=>(D3 (h.below k) hi kd ee s rr ww hs (J.below k J.lt) (V.below k aj) (by have:=k.size;omega)).mono (fun e w' ⟨ap,al⟩=>show gD base b us.length ms.length w e w' from by
  obtain ⟨⟨u',ay⟩,ah⟩:=al;exact ⟨ap,_,_,_,_,_,ay,(k.mono ak).trans ah,aj,by simpa using Y,ar⟩))
 clear h hc hi J V D;have aN:(kd==1)=false:=by rcases I with rfl|rfl|rfl<;>rfl
 have aO:(kd==2)=false:=by rcases I with rfl|rfl|rfl<;>rfl
 have aw:((kd==3)=true)\/((kd==3)=false/\(kd==4)=true)\/((kd==3)=false/\(kd==4)=false/\(kd==5)=true):=by rcases I with rfl|rfl|rfl<;>decide
 clear I
 rcases aw with Z|⟨Z,aC⟩|⟨Z,aC,aM⟩
 all_goals
  go_enter func15,ntmps15;go_wp2_with fail;generalize ag:w.alloc (mE kd ee s rr ww)=W at*;have aJ:=A.u.lt;clear ag;have aQ:W.cell? ⟨w.heap.size,1,none⟩=some (.int .i64 ee):=A.u.cell rfl;obtain ⟨aP,aR,aS,aV⟩:W.cell? ⟨w.heap.size,0,none⟩=some (.int .i64 kd)/\W.cell? ⟨w.heap.size,2,none⟩=some (.string s)/\W.cell? ⟨w.heap.size,3,none⟩=some (.string rr)/\W.cell? ⟨w.heap.size,4,none⟩=some (.string ww):=⟨A.u.cell rfl,A.u.cell rfl,A.u.cell rfl,A.u.cell rfl⟩;have aW:=ae.u;have aX:=af.u;have aF:=ac.u;have aG:(i:Int)<(us.length:Int):=aj
  go_region_held3 (fun w'=>w'.cell? ⟨b,0,none⟩=some (.slice (some ⟨g,0,none⟩) us.length aB)/\w'.cell? ⟨w.heap.size,1,none⟩=some (.int .i64 ee)/\w'.cell? ⟨g,i*2,none⟩=some (.pointer (some ⟨u.x,0,none⟩))/\w'.cell? ⟨g,i*2+1,none⟩=some (.pointer (some ⟨u.y,0,none⟩))) (go_keep)
   ((go_at_call 45;refine (ab.u _).mono ?_;rintro e w' ⟨rfl,rfl⟩))
  all_goals
   go_wp2_with fail;refine (C.u _ ((Q.u.alloc Q.u.size _).drew)).mono ?_;rintro e aY R;have ad:=ai R;obtain ⟨rfl,_⟩:=R;clear C;go_wp2;go_ret;exact ad.u
structure St where
 kd:Int
 ee:Int
 s:ae
 rr:ae
 ww:ae
structure Ho(x:St):Prop where
 e0: -9223372036854775808<=x.ee
 e1:x.ee<=9223372036854775807
 s:x.s.size<=maxLen
 r:x.rr.size<=maxLen
 w:x.ww.size<=maxLen
structure Env(w:af):Prop where
 laid:Laid w
 max:mT w
 pow:oU w
 lt:4<w.heap.size
variable {B:Nat}
def Env.below(h:Env w)(k:Below B w w')(A:4<B):Env w':=⟨h.laid.below k aj,h.max.below k aj,h.pow.below k aj,by have:=k.size;have:=h.lt;omega⟩
def XP(ks:List Int):Prop:=∀(base b:Nat) (lv ir ib:ag) (us:List eU) (h:List (ag×Nat)) (w:af) (x:St),WS base w b lv ir ib us h->1<=us.length->us.length+1<=8796093022208->h.length+4<=8796093022208->ks.any (fun k=>x.kd==k)=true->Ho x->Env w->4<base->
 Calls prog 15 #[.pointer (some ⟨b,0,none⟩),.agg #[.int .i64 x.kd,.int .i64 x.ee,.string x.s,.string x.rr,.string x.ww]] w (gD base b us.length h.length w)
def LV(w:af)(v:ag)(n:Nat):Prop:=(v=.slice none 0 0/\n=0)\/∃(h:Addr)(c:Nat)(z:Nat->St),v=.slice (some h) n c/\n<=c/\∀j,j<n->Ho (z j)/\w.cell? (h.add (j*5))=some (.int .i64 (z j).kd)/\w.cell? ⟨(h.add (j*5)).block,(h.add (j*5)).off+1,none⟩=some (.int .i64 (z j).ee)/\w.cell? ⟨(h.add (j*5)).block,(h.add (j*5)).off+2,none⟩=some (.string (z j).s)/\w.cell? ⟨(h.add (j*5)).block,(h.add (j*5)).off+3,none⟩=some (.string (z j).rr)/\w.cell? ⟨(h.add (j*5)).block,(h.add (j*5)).off+4,none⟩=some (.string (z j).ww)
variable {j:Nat}
def LV.cell{ad}(h:LV w (.slice (some ad) n c) n)(k:an w w')(I:j<n):∃x:St,Ho x/\w'.cell? (ad.add (j*5))=some (.int .i64 x.kd)/\w'.cell? ⟨(ad.add (j*5)).block,(ad.add (j*5)).off+1,none⟩=some (.int .i64 x.ee)/\w'.cell? ⟨(ad.add (j*5)).block,(ad.add (j*5)).off+2,none⟩=some (.string x.s)/\w'.cell? ⟨(ad.add (j*5)).block,(ad.add (j*5)).off+3,none⟩=some (.string x.rr)/\w'.cell? ⟨(ad.add (j*5)).block,(ad.add (j*5)).off+4,none⟩=some (.string x.ww):=by
 rcases h with ⟨h,_⟩|⟨Q,R,z,e,_,J⟩
 ·cases h
 simp only [aI,aL,bU] at e;obtain ⟨rfl,rfl⟩:=e;obtain ⟨h0,h1,h2,A,C,D⟩:=J j I;exact ⟨z j,h0,am h1 k,am h2 k,am A k,am C k,am D k⟩
def D6:ae:=⟨#[116,121,112,101,32,117,115,101,114,32,123,32,125,32,116,121,112,101,32,103,114,111,117,112,32,123,32,109,101,109,98,101,114,58,32,91,117,115,101,114,44,32,103,114,111,117,112,35,109,101,109,98,101,114,93,59,32,125,32,116,121,112,101,32,100,111,99,32,123,32,112,97,114,101,110,116,58,32,91,100,111,99,93,59,32,111,119,110,101,114,58,32,91,117,115,101,114,93,59,32,98,97,110,110,101,100,58,32,91,117,115,101,114,44,32,117,115,101,114,42,93,59,32,101,100,105,116,111,114,58,32,91,117,115,101,114,44,32,103,114,111,117,112,35,109,101,109,98,101,114,93,32,124,32,111,119,110,101,114,32,124,32,112,97,114,101,110,116,46,101,100,105,116,111,114,59,32,118,105,101,119,101,114,58,32,40,91,117,115,101,114,42,93,32,124,32,101,100,105,116,111,114,41,32,45,32,98,97,110,110,101,100,59,32,125]⟩
def VW:∃ts,fq D6=.ok ts:=by
 have h:(match fq D6 with| .ok _=>true| .error _=>false)=true:=aw
 cases A:fq D6 with
 |ok ts=>exact ⟨ts,rfl⟩
 |error e=>rw [A] at h;cases h
def RF (h:aA:=by
 go_wp2_with fail
 go_region
 all_goals
  go_wp2_with fail;exact ⟨⟨k+1,aj,by go_num,by rw [HTK.u];simp,HBI.u.drew⟩,by simp [intOf];omega⟩):aA:=h
def LW(ks)(ba:XP ks)(v n w0 w)(h:LV w0 v n)(bv:n<=2199023255488)(g c)(bt:ks.length<=100)(bk:∀k (bi:k<ks.length),w.cell? ⟨g,k,none⟩=some (.int .i64 ks[k]))(ae:an w0 w)(Q:Env w)(bs:4<w0.heap.size):
  Calls prog 16 #[v,.slice (some ⟨g,0,none⟩) ks.length c] w fun e w'=>e=.returned (.bool true)/\an w0 w':=by
 have hv:∃a c,v=.slice a n c/\(0<n->∃Y,a=some Y):=by
  rcases h with ⟨rfl,rfl⟩|⟨Y,c,z,rfl,h1,_⟩
  ·exact ⟨_,_,rfl,aj⟩
  exact ⟨_,_,rfl,fun _=>⟨_,rfl⟩⟩
 obtain ⟨bE,rc,rfl,bl⟩:=hv;obtain ⟨ts,bn⟩:=VW;have av:=(az w.heap.size w).alloc aD (.cells #[.slice none 0 0,.slice none 0 0,.slice none 0 0] 31);have a9:WS w.heap.size (w.alloc (.cells #[.slice none 0 0,.slice none 0 0,.slice none 0 0] 31)) w.heap.size (.slice none 0 0) (.slice none 0 0) (.slice none 0 0) [] []:=⟨aE.new w _ _,bY _,bL,bL,bL,ar,ar,List.Pairwise.nil,ar,ar,ar⟩;have af:=ai (zk a9 D6 (Q.laid.below av Q.laid.lt) ts bn ar);have aY:=ai h;have aZ:=ai bl;have al:=ai Q;have a0:=ai ba;have ah:=ai ae;have aS:=ai av;have aV:=ai bk;have Z:=Q.lt;have aH:=ae.size;unfold D6 at af;go_enter func16,ntmps16;go_wp2_with fail;refine (ak af).mono ?_;rintro e w1 ⟨rfl,lv,ir,ib,us,C,I,be,aC,aF⟩;simp only [List.length_nil,if_true] at aC aF;obtain ⟨bC,bD,rfl⟩:=ax I.l;obtain ⟨c0,c1,c2⟩:=three I.blk;have aG:us.length=1:=by simpa using aF
 have ap:=ai aG;rw [aG] at c0;have aO:=ai (aS.u.trans be);have a1:=ai I;have aX:=ai aC;go_wp2_with fail
 go_loopw [7] (fun u wr=>∃(i:Nat) (lv ir ib:ag) (us:List eU) (C:List (ag×Nat)),i<=n/\u=.int .i64 i/\an w wr/\WS w.heap.size wr w.heap.size lv ir ib us C/\Hid (1<=us.length/\us.length<=i+1/\C.length<=4*i)) (fun u _=>n-(intOf u).toNat)
 case atStart=>exact ⟨0,_,_,_,us,C,aj,rfl,aO.u,a1.u,ai ⟨by rw [ap.u];omega,by rw [ap.u];omega,by rw [aX.u];omega⟩⟩
 case round=>
  obtain ⟨i,lv,ir,ib,us,C,hi,rfl,ay,I,D⟩:=hrel;obtain ⟨V,bb⟩:∃V,V=wr:=⟨_,rfl⟩;subst bb;have J:=ai ay
  by_cases bh:i<n
  ·have bg:(i:Int)<(n:Int):=by omega
   obtain ⟨Y,rfl⟩:=aZ.u aj;have aR:=ai (ah.u.trans (ay.mono aH));obtain ⟨x,bp,ad,aK,aL,aM,aN⟩:=aY.u.cell aR.u bh;have a3:=ai I;have a4:=ai bp;have au:=ai ad;have a5:=ai aK;have a6:=ai aL;have a7:=ai aM;have a8:=ai aN;go_wp2_with fail
   go_loopw [8,9] (fun u8 ab br=>∃k:Nat,k<=ks.length/\ab=.int .i64 k/\u8=.bool ((ks.take k).any fun q=>x.kd==q)/\an V br) (fun _ ab _=>ks.length-(intOf ab).toNat)
   case atStart=>exact ⟨0,aj,rfl,rfl,az _ _⟩
   case round=>
    obtain ⟨k,bi,rfl,rfl,A⟩:=hrel;have HBI:=ai A
    by_cases aB:k<ks.length
    ·have bj:(k:Int)<(ks.length:Int):=by omega
     have ad:=am au.u A;have bH:wr.cell? ⟨g,k,none⟩=some (.int .i64 ks[k]):=am (am (aV.u k aB) J.u) A;have HTK:=ai (by rw [cJ aB,List.any_append];simp:((ks.take (k+1)).any fun q=>x.kd==q)=(((ks.take k).any fun q=>x.kd==q)||(x.kd==ks[k])));generalize ((ks.take k).any fun q=>x.kd==q)=t0 at*;generalize ks[k]=bx at*
     cases t0
     ·exact RF
     exact RF
    have bj:¬((k:Int)<(ks.length:Int)):=aj;rw [dy aj];have ad:=am au.u A;have aK:=am a5.u A;have aL:=am a6.u A;have aM:=am a7.u A;have aN:=am a8.u A;have R:=ai (J.u.trans (A.mono J.u.size));have aw:=a3.u.below A
    cases bc:ks.any fun q=>x.kd==q
    ·have U:=ai aw;go_wp2;go_roundw
     case rel=>exact ⟨i+1,_,_,_,us,C,aj,by go_num,R.u,U.u,by
      obtain ⟨l1,l2,bq⟩:=ak D;exact ai ⟨l1,aj,aj⟩⟩
     case measure=>simp [intOf];omega
    have aP:=ai (a0.u w.heap.size w.heap.size _ _ _ us C wr x aw (ak D).1 (by have:=(ak D).2.1;omega) (by have:=(ak D).2.2;omega) bc a4.u (al.u.below R.u Z) Z);go_wp2_with fail;refine aP.u.mono ?_;rintro e bG ⟨rfl,bB,bA,bz,ac,aJ,aI,bf,bu,bo,bw⟩;have B2:=ai (R.u.trans bf);have aQ:=ai (LU aI (by have:=(ak D).2.2;omega) (al.u.below B2.u Z).pow Xj);have U:=ai aI;have aW:=ai (show 1<=ac.length/\ac.length<=i+1+1/\aJ.length<=4*(i+1) from by
     obtain ⟨l1,l2,bq⟩:=ak D;exact ⟨bo,aj,aj⟩)
    go_wp2_with fail;refine aQ.u.mono ?_;refine Ar ?_;intro w3 hb3 B3;have a2:=ai (U.u.below hb3);go_wp2;go_roundw
    case rel=>exact ⟨i+1,_,_,_,ac,aJ,aj,by go_num,B3.u,a2.u,aW⟩
    case measure=>simp [intOf];omega
  have bg:¬((i:Int)<(n:Int)):=aj;go_wp2;go_ret;exact ⟨rfl,ah.u.trans (J.u.mono aH)⟩
def RG{ms}(h:WS base w b lv ir ib us ms)(au:1<=us.length)(kd ee s rr ww)(A:kd=6\/kd=7\/kd=8)(al: -9223372036854775808<=ee)(ap:ee<=9223372036854775807)(aJ:us.length+1<=8796093022208)(J:∀W',an w W'->∀u∈us,Calls prog 47 #[.pointer (some ⟨b,0,none⟩),.agg #[.pointer (some ⟨u.x,0,none⟩),.pointer (some ⟨u.y,0,none⟩)],.agg #[.int .i64 kd,.int .i64 ee,.string s,.string rr,.string ww]] W' (gD base b us.length ms.length W')):
  Calls prog 15 #[.pointer (some ⟨b,0,none⟩),.agg #[.int .i64 kd,.int .i64 ee,.string s,.string rr,.string ww]] w (gD base b us.length ms.length w):=by
 obtain ⟨aK,av,rfl⟩:=ax h.l;have U:ja ee us.length<us.length:=D4 ee au;obtain ⟨g,c,e1,hc⟩:=bf VR 2 (fun _=>rfl) h.l (ja ee us.length) us[ja ee us.length] (aH U);simp only [aI,bU] at e1;obtain ⟨rfl,rfl⟩:=e1;have hi:us[ja ee us.length]? =some us[ja ee us.length]:=aH U;generalize us[ja ee us.length]=u at*;have Y:=ai (fun w'=>D5 ee us.length w' al ap aj aj);generalize ja ee us.length=i at*;have I:=(az w.heap.size w).alloc aD (mE kd ee s rr ww);have D:=ai (aE.new w #[.int .i64 kd,.int .i64 ee,.string s,.string rr,.string ww] 34);have ac:=ai (am (show w.cell? ⟨g,i*2,none⟩=some (.pointer (some ⟨u.x,0,none⟩)) from hc 0 _ aj rfl) I);have ad:=ai (am (show w.cell? ⟨g,i*2+1,none⟩=some (.pointer (some ⟨u.y,0,none⟩)) from hc 1 _ aj rfl) I);have Z:=ai (am (three h.blk).1 I);have Q:=ai I;have ah:base<=w.heap.size:=by have:=h.low;have:=h.blk.lt;omega
 have C:=ai (fun W' (k:an w W')=>(J W' k u (bA hi)).mono (fun e w' ⟨ak,lv,ir,ib,aB,ay,h1,h2,ae,af⟩=>show gD base b us.length ms.length w e w' from ⟨ak,lv,ir,ib,aB,ay,h1,(k.mono ah).trans h2,ae,af⟩));clear h hc hi I J;have aP:(kd==1)=false:=by rcases A with rfl|rfl|rfl<;>rfl
 have aQ:(kd==2)=false:=by rcases A with rfl|rfl|rfl<;>rfl
 have aL:(kd==3)=false:=by rcases A with rfl|rfl|rfl<;>rfl
 have aM:(kd==4)=false:=by rcases A with rfl|rfl|rfl<;>rfl
 have aN:(kd==5)=false:=by rcases A with rfl|rfl|rfl<;>rfl
 have ar:((kd==6)=true)\/((kd==6)=false/\(kd==7)=true)\/((kd==6)=false/\(kd==7)=false/\(kd==8)=true):=by rcases A with rfl|rfl|rfl<;>decide
 clear A
 rcases ar with V|⟨V,aw⟩|⟨V,aw,aO⟩
 all_goals
  go_enter func15,ntmps15;go_wp2_with fail;generalize ag:w.alloc (mE kd ee s rr ww)=W at*;have aG:=D.u.lt;clear ag;have aS:W.cell? ⟨w.heap.size,1,none⟩=some (.int .i64 ee):=D.u.cell rfl;obtain ⟨aR,aV,aW,aX⟩:W.cell? ⟨w.heap.size,0,none⟩=some (.int .i64 kd)/\W.cell? ⟨w.heap.size,2,none⟩=some (.string s)/\W.cell? ⟨w.heap.size,3,none⟩=some (.string rr)/\W.cell? ⟨w.heap.size,4,none⟩=some (.string ww):=⟨D.u.cell rfl,D.u.cell rfl,D.u.cell rfl,D.u.cell rfl⟩;have aY:=ac.u;have aZ:=ad.u;have aC:=Z.u;have aF:(i:Int)<(us.length:Int):=aj
  go_region_held3 (fun w'=>w'.cell? ⟨b,0,none⟩=some (.slice (some ⟨g,0,none⟩) us.length av)/\w'.cell? ⟨w.heap.size,1,none⟩=some (.int .i64 ee)/\w'.cell? ⟨g,i*2,none⟩=some (.pointer (some ⟨u.x,0,none⟩))/\w'.cell? ⟨g,i*2+1,none⟩=some (.pointer (some ⟨u.y,0,none⟩))) (go_keep)
   ((go_at_call 45;refine (Y.u _).mono ?_;rintro e w' ⟨rfl,rfl⟩))
  all_goals
   go_wp2_with fail;refine (C.u _ ((Q.u.alloc Q.u.size _).drew)).mono ?_;rintro e a5 R;have ab:=ai R;obtain ⟨rfl,_⟩:=R;clear C;go_wp2;go_ret;exact ab.u
end Go.Proofs.YtlbpnlngckgcbaaGreatDoor
namespace Go.Proofs.YtlbpnlngckgcbaaGreatDoor
open Go.ChangeShapes Go.WideShapes Go.RowKit Go.Proofs.Tryz
def Zc:Tryz.prog.cellsOf 3=1:=by kernel_rfl
def Zd:Tryz.prog.cellsOf 9=1:=by kernel_rfl
def Bh:Tryz.prog.cellsOf 34=5:=by kernel_rfl
def VX:Tryz.prog.bytesOf 34=64:=by kernel_rfl
def VY{n}(h:(Lit.int .i64 n).wf=true): -9223372036854775808<=n/\n<=9223372036854775807:=by
 simp only [Lit.wf,bM,jo] at h;have h1:IntKind.i64.min= -9223372036854775808:=au;have h2:IntKind.i64.max=9223372036854775807:=au;rw [h1,h2] at h;exact h
variable {H:Type} {W:World}
def VZ{enc:TypeId×Value->H}{fuel cs}{x:DataW H×List MemPlace}(h:DataW.trod enc Tryz.prog W 0 (fun _=>true) true fuel 34 cs=some x):
  ∃st:St,Ho st/\cs=[.int .i64 st.kd,.int .i64 st.ee,.string st.s,.string st.rr,.string st.ww]/\x.2=[]:=by
 obtain ⟨xs,k,aj,ab,V,Z,A⟩:=DataW.trod_struct Tryz.underlying34 h;rw [Bh] at V
 match xs,Z,cs,V with
 | [y0,y1,y2,y3,y4],_,[v0,v1,v2,v3,v4],_=>
  have g0:=A 0 _ rfl;have C:=A 1 _ rfl;have D:=A 2 _ rfl;have I:=A 3 _ rfl;have J:=A 4 _ rfl;simp only [List.getElem_toArray,List.getElem_cons_zero,List.getElem_cons_succ] at g0 C D I J;simp only [Zc,Zd,m6,q8,List.take_succ_cons,List.take_zero,List.getElem?_cons_zero,List.getElem?_cons_succ] at g0 C D I J;obtain ⟨ac,e0,f0,ak⟩:=DataW.trod_int Tryz.underlying3 g0;obtain ⟨n1,e1,f1,af⟩:=DataW.trod_int Tryz.underlying3 C;obtain ⟨n2,Q,f2,ah⟩:=DataW.trod_string Tryz.underlying9 D;obtain ⟨ad,R,f3,r3⟩:=DataW.trod_string Tryz.underlying9 I;obtain ⟨ae,U,f4,ai⟩:=DataW.trod_string Tryz.underlying9 J;simp only [kO,fI] at e0 e1 Q R U;subst e0 e1 Q R U;have Y:=VY af;refine ⟨⟨ac,n1,n2,ad,ae⟩,⟨Y.1,Y.2,ah,r3,ai⟩,rfl,?_⟩;rw [ab,f0,f1,f2,f3,f4]
  rfl
def Ze{enc:TypeId×Value->H}{a0 Zf aba d p}(h:DataW.Trod enc Tryz.prog W 0 (fun _=>true) true 36 (.slice a0 Zf aba) d p):
  ∃n,LV W (.slice a0 Zf aba) n/\(∀x∈p,x.block<W.heap.size)/\((d=.nil/\n=0)\/∃el al,d=.slice el al/\el.length=n):=by
 obtain ⟨fuel,Z⟩:=h
 rcases Deep.open_slice Tryz.underlying36 Z with ⟨I,C⟩|⟨a,len,cap,m,n,am,J,I,_,hl,av,U,C,Y⟩
 ·simp only [Value.cells,List.toList_toArray,kO,fI,aI] at I;simp only [gM] at C;obtain ⟨rfl,rfl,rfl⟩:=I;obtain ⟨rfl,rfl⟩:=C;exact ⟨0,.inl ⟨rfl,rfl⟩,ar,.inl ⟨rfl,rfl⟩⟩
 ·simp only [Value.cells,List.toList_toArray,kO,fI,aI] at I;simp only [gM] at C;obtain ⟨rfl,rfl,rfl⟩:=I;obtain ⟨rfl,rfl⟩:=C;simp only [if_true] at U;subst U;have each:∀i,i<m->∃st:St,Ho st/\W.cell? (a.add (i*5))=some (.int .i64 st.kd)/\W.cell? ⟨(a.add (i*5)).block,(a.add (i*5)).off+1,none⟩=some (.int .i64 st.ee)/\W.cell? ⟨(a.add (i*5)).block,(a.add (i*5)).off+2,none⟩=some (.string st.s)/\W.cell? ⟨(a.add (i*5)).block,(a.add (i*5)).off+3,none⟩=some (.string st.rr)/\W.cell? ⟨(a.add (i*5)).block,(a.add (i*5)).off+4,none⟩=some (.string st.ww)/\J i=[]:=fun i hi=>by
   obtain ⟨an,h1,h2⟩:=Y i hi;rw [Bh] at h1;obtain ⟨_,au,D⟩:=World.cells?_some h1;obtain ⟨st,ok,rfl,ac⟩:=VZ h2;exact ⟨st,ok,D 0 aj,D 1 aj,D 2 aj,D 3 aj,D 4 aj,ac⟩
  have ab:∃V:St,True:=⟨⟨0,0,⟨#[]⟩,⟨#[]⟩,⟨#[]⟩⟩,trivial⟩;obtain ⟨V,_⟩:=ab;have ch:∃z:Nat->St,∀i,i<m->Ho (z i)/\W.cell? (a.add (i*5))=some (.int .i64 (z i).kd)/\W.cell? ⟨(a.add (i*5)).block,(a.add (i*5)).off+1,none⟩=some (.int .i64 (z i).ee)/\W.cell? ⟨(a.add (i*5)).block,(a.add (i*5)).off+2,none⟩=some (.string (z i).s)/\W.cell? ⟨(a.add (i*5)).block,(a.add (i*5)).off+3,none⟩=some (.string (z i).rr)/\W.cell? ⟨(a.add (i*5)).block,(a.add (i*5)).off+4,none⟩=some (.string (z i).ww)/\J i=[]:=by
   have:∀i,∃st:St,i<m->Ho st/\W.cell? (a.add (i*5))=some (.int .i64 st.kd)/\W.cell? ⟨(a.add (i*5)).block,(a.add (i*5)).off+1,none⟩=some (.int .i64 st.ee)/\W.cell? ⟨(a.add (i*5)).block,(a.add (i*5)).off+2,none⟩=some (.string st.s)/\W.cell? ⟨(a.add (i*5)).block,(a.add (i*5)).off+3,none⟩=some (.string st.rr)/\W.cell? ⟨(a.add (i*5)).block,(a.add (i*5)).off+4,none⟩=some (.string st.ww)/\J i=[]:=fun i=>by
    by_cases hi:i<m
    ·obtain ⟨st,h⟩:=each i hi;exact ⟨st,fun _=>h⟩
    exact ⟨V,fun h=>absurd h hi⟩
   exact Pb
  obtain ⟨z,Q⟩:=ch;refine ⟨Zf,.inr ⟨a,m,z,rfl,hl,fun j ap=> ?_⟩,fun x C=> ?_,.inr ⟨_,_,rfl,ar⟩⟩
  ·obtain ⟨ad,ae,af,ah,ai,ak,_⟩:=Q j aj;exact ⟨ad,ae,af,ah,ai,ak⟩
  rcases aQ.1 C with C|C
  ·obtain ⟨i,hi,rfl⟩:=MemPlace.mem_row.1 C;rw [Bh] at hi;have h0:=(Q 0 aj).2.1;have:=World.block_lt_of_cell? W _ h0;have R:∀q,(a.add q).block=a.block:=fun q=>by unfold Addr.add;split<;>rfl
   rw [R] at this
   simpa [MemPlace.block,R] using this
  obtain ⟨i,hi,C⟩:=bS.1 C;rw [(Q i (List.mem_range.1 hi)).2.2.2.2.2.2] at C
  cases C
end Go.Proofs.YtlbpnlngckgcbaaGreatDoor
namespace Go.Proofs.YtlbpnlngckgcbaaGreatDoor
open Go.ChangeShapes Go.WideShapes Go.RowKit Go.Proofs.Tryz
def gOwn:ownKnob Tryz.prog.godebug=none:=by kernel_rfl
def gVar:Tryz.prog.globalNamed "errors.errorType"=some 0:=by kernel_rfl
def gRt:(Tryz.prog.cutTypes.find? (·.1== "internal/reflectlite.rtype")).map (·.2)=some 325:=by kernel_rfl
def gSize:Tryz.prog.types.size=445:=by kernel_rfl
def gOne:((List.range 445).filter fun t=>Tryz.prog.rowNamed t [101,114,114,111,114])=[77]:=by kernel_rfl
def gLaid:laidOutB Tryz.prog=true:=by kernel_rfl
def XQ:Tryz.prog.globals.size=5:=by kernel_rfl
def gFour:((begin Tryz.prog (fun _ _=>0) default).world.heap[4]?).bind Obj.row? =some ((((begin Tryz.prog (fun _ _=>0) default).world.heap[4]?).bind Obj.row?).getD (#[],0)):=by kernel_rfl
variable {W:World}
def Zg(h:laidMet Tryz.prog [("math/bits.deBruijn32tab",Rows.laid_math_bits_deBruijn32tab),("math/bits.deBruijn64tab",Rows.laid_math_bits_deBruijn64tab),("internal/strconv.uint64pow10",Rows.laid_internal_strconv_uint64pow10)] W):oU W:=by
 obtain ⟨ps,⟨_,_,_,_,_,_,_,_,_,_,⟨_,_,_,_,_,_,_,_,_,_,⟨g',J,cs,fuel,p,q,C,D,I,A,_,_⟩,_⟩,_⟩,_⟩:=h;obtain rfl:=gu ((show Tryz.prog.globalNamed "internal/strconv.uint64pow10"=some 2 by kernel_rfl).symm.trans C);obtain rfl:=gu ((show (Tryz.prog.globals[2]?).map (·.type)=some 413 by kernel_rfl).symm.trans D);unfold oU Lib.TabIs;rw [I];rw [<-Lib.cells_of_tab (zs:=Lib.pow10Tab) (k:=.u64) Tryz.underlying413 Tryz.underlying192 aw aw A]
variable {H:Type} {fn:Func} {again:Bool}
def D7{enc:TypeId×Value->H}{a C os f s conds apart fresh handsOn}{X:World->Array Value->Prop}(Q:∀(w w':World)(args:Array Value),w.heap=w'.heap->X w args->X w' args)(own:ownKnob C.prog.godebug=none)(al:os.Started)(ak:C.prog.inits.idxOf? f=none)(U:C.prog.funcs[f]? =some fn) (am:∃(w:World)(tape:Tape)(i:Input),w.os=os/\(w.forCall tape i).Shaped C.prog/\i.vars=[]/\Input.okWide C.prog (w.forCall tape i) .any w.heap.size f i/\
   ((s.pre enc C.prog fn conds apart (w.forCall tape i).memory i.args/\X (w.forCall tape i).memory i.args)/\sizedMet enc C.prog fn (OpenSpec.ofChange s) apart (w.forCall tape i).memory i.args)/\a.holds C.prog (lone (Frame.enter C.prog f i.args .normal) [] (w.forCall tape i))) (I:∀(W:World) (base:Nat) (args:Array Value) (ds gs:List (DataW H)) (A:List MemPlace),
   (∀(j:Nat) t v,fn.params[j]? =some t->args[j]? =some v->Value.okWide C.prog W .any base t v)->
   DataW.Whole enc C.prog fn.params.toList s.vars apart W args.toList ds gs A->
   conds.all (PathCond.test C.prog ⟨fn.params.toList,ds,s.plain.varTypes C.prog,gs⟩)=true->
   (DataW.weightsEach C.prog (fn.params.toList++s.plain.varTypes C.prog) (ds++gs)).all (· <=reachBytes)=true->W.ShapedOpen C.prog->X W args->
   a.holds C.prog (lone (Frame.enter C.prog f args .normal) [] W)->
   Calls C.prog f args W fun e W'=>∃v,e=.returned v/\s.post enc C.prog fn apart fresh handsOn again W args v W'):
  ReturnsInHanded a C os f .any (fun w args=>(s.pre enc C.prog fn conds apart w args/\X w args)/\sizedMet enc C.prog fn (OpenSpec.ofChange s) apart w args) (s.post enc C.prog fn apart fresh handsOn again):=by
 refine returnsInHanded_of_calls own al ak am ?_;intro w tape i _ ad _ Z ac Y;obtain ⟨_,_,_,J,V,_,_,_,_,ae⟩:=Z;have e:J=fn:=gu (V.symm.trans U);subst e;obtain ⟨⟨⟨ds,gs,A,D,hc⟩,ai⟩,aj⟩:=ac;have ah:=DataW.Whole.of_heap (w':=w.forCall tape i) bc D;refine (I (w.forCall tape i) w.heap.size i.args ds gs A ae ah hc (aj.weights D) ad (Q _ _ _ bc ai) Y).mono fun e W' ⟨v,R,ab⟩=> ?_
 subst R;exact ChangeSpec.post_blind ab
