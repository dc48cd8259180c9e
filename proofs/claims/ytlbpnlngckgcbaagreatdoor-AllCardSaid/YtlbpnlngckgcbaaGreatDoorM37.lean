import Derived.Test.YtlbpnlngckgcbaaGreatDoorM07
import Derived.Test.YtlbpnlngckgcbaaGreatDoorM29
import Derived.Test.YtlbpnlngckgcbaaGreatDoorM35
import Derived.Deep.DeepAppendWide
import Derived.Deep.Slices
import Derived.ChangeArms
import Derived.SizedLaws
import Derived.Lib.LaidTab
import Derived.Shelf.Vars
import Derived.ChangeSame
import Derived.DataShut
import Derived.OpenShut
import Derived.ChangeVars
import Derived.ChangeSlices
import Derived.Carry
import Derived.LaidLaws
import Derived.LaidHandle
import Derived.LaidMore
import Derived.LaidSub
import Derived.Test.YtlbpnlngckgcbaaGreatDoorRows
import Derived.HandedShaped
import Derived.JoinedOf
import Derived.Stop.Joined
set_option linter.all false
set_option maxHeartbeats 4000000
set_option maxRecDepth 100000
namespace Go.Proofs.YtlbpnlngckgcbaaGreatDoor
open Go.RowKit Go.PlainAid Go.Proofs.Tryz
variable {aD bq:Prop}
def Fb (h:aD:=by
 unfold UTy;decide):aD:=h
def Sn (h:aD:=by
 rw [e] at hr;obtain ⟨C,A,_⟩:=dG hr;exact ⟨_,_,A,.inr rfl⟩):aD:=h
structure ez where
 x:Nat
 y:Nat
 bm:Nat
 mv:ag
 lv:ag
 gv:ag
 tv:ag
 ts:List Ty
 gs:List Tu
 ss:List ae
 I:Nat->Prop
structure N4(w:af)(x:Nat)(mv lv gv:ag)(ts:List Ty)(gs:List Tu):Prop where
 p:PU w x mv lv gv gs
 m:∃bm tl,MC bm w mv ts tl
 l:Y2 ts lv w
structure MX(w:af)(y bm:Nat)(tv:ag)(ts:List Ty)(ss:List ae)(I:Nat->Prop):Prop where
 d:DU w y (.pointer (some (aC bm 5))) tv ss
 r:XS ts I bm w
 il:∀k,I k->k<w.heap.size
 most:ss.length<=24
structure UR(w:af)(u:ez):Prop where
 up:N4 w u.x u.mv u.lv u.gv u.ts u.gs
 ud:MX w u.y u.bm u.tv u.ts u.ss u.I
 both:sW u.gs u.ss
 lets:tZ u.ts u.gs
def US(u:ez)(k:Nat):Prop:=BG u.x u.gv k\/Iy u.y u.tv k
def UTy(T:TypeId):Prop:=T=117\/T=123\/T=262\/T=264
def MD(T:TypeId):Prop:=(T=207\/T=159\/T=110)\/LT T\/RT T
variable {w:af} {base size n k:Nat} {e:TypeId} {v:ag} {xs:List ag}
def Fc(h:w.ownsRow base e size v n xs)(A:v.ownBlock=some k):∃m c,v=aA (some (aP k)) m c:=by
 rcases h.2 with ⟨rfl,_⟩|⟨g,cap,C,rfl,_⟩
 ·cases A
 simp only [Value.ownBlock,aR] at A;subst A;exact ⟨_,_,rfl⟩
variable {mv lv gv:ag} {ts:List Ty} {gs:List Tu}
def N4.ty{x}(h:N4 w x mv lv gv ts gs)(D:BG x gv k):∃cs T,aL w k cs T/\(T=117\/T=123):=by
 rcases D with rfl|⟨n,c,e⟩
 ·exact ⟨_,_,h.p.blk,.inl rfl⟩
 have hr:=h.p.row;exact Sn
variable {bm:Nat} {tv:ag} {ss:List ae}
def MX.ty{y I}(h:MX w y bm tv ts ss I)(D:Iy y tv k):∃cs T,aL w k cs T/\(T=262\/T=264):=by
 rcases D with rfl|⟨n,c,e⟩
 ·exact ⟨_,_,h.d.blk,.inl rfl⟩
 have hr:=h.d.row;exact Sn
variable {u:ez}
def UR.ty(h:UR w u)(A:US u k):∃cs T,aL w k cs T/\UTy T:=by
 rcases A with A|A
 ·obtain ⟨cs,T,C,D⟩:=h.up.ty A;exact ⟨cs,T,C,D.elim .inl (fun e=> .inr (.inl e))⟩
 obtain ⟨cs,T,C,D⟩:=h.ud.ty A;exact ⟨cs,T,C,D.elim (fun e=> .inr (.inr (.inl e))) (fun e=> .inr (.inr (.inr e)))⟩
def UR.lt(h:UR w u)(C:US u k):k<w.heap.size:=by
 obtain ⟨cs,T,A,_⟩:=h.ty C;exact A.lt
variable {cs:Array ag} {T:TypeId}
def UR.nty(h:UR w u){f:Nat×Nat}(D:US u k)(C:w.heap[k]? =some (.cells cs T f)):UTy T:=by
 obtain ⟨J,T',A,I⟩:=h.ty D;unfold aL at A;rw [A] at C
 cases C
 exact I
variable {w':af}
def N4.keep{S:Nat->Prop}{x:Nat}(h:N4 w x mv lv gv ts gs)(k:bK S w w')(D:∀k,BG x gv k->¬S k)(I:∀(k:Nat)(cs:Array ag)(T:TypeId)(f:Nat×Nat),S k->w.heap[k]? =some (Obj.cells cs T f)->¬((T=207\/T=159\/T=110)\/LT T)):N4 w' x mv lv gv ts gs where
 p:=⟨k.blk h.p.blk (D _ (.inl rfl)),cH h.p.row (fun g cs f J A=>k.block g (lt_of_some A) (D g (.inr (Fc h.p.row J)))),h.p.apart,h.p.most⟩
 m:=by
  obtain ⟨bm,tl,Q⟩:=h.m;exact ⟨bm,tl,Q.kt (fun g cs T f A C=>k.block g (lt_of_some A) (fun hs=>I g cs T f hs A (.inl C))) k.size⟩
 l:=by
  obtain ⟨qs,h1,h2⟩:=h.l;exact ⟨qs,h1.frame (fun g cs T f A C=>k.block g (lt_of_some A) (fun hs=>I g cs T f hs A (.inr C))),h2⟩
def MX.keep{S:Nat->Prop}{y:Nat}{I:Nat->Prop}(h:MX w y bm tv ts ss I)(k:bK S w w')(C:∀k,Iy y tv k->¬S k)(D:∀(k:Nat)(cs:Array ag)(T:TypeId)(f:Nat×Nat),S k->w.heap[k]? =some (Obj.cells cs T f)->RT T->T=3/\¬I k):MX w' y bm tv ts ss I where
 d:=⟨k.blk h.d.blk (C _ (.inl rfl)),cH h.d.row (fun g cs f J A=>k.block g (lt_of_some A) (C g (.inr (Fc h.d.row J)))),h.d.apart,h.d.most⟩
 r:=h.r.kx (fun g cs T f A Q hi=>k.block g (lt_of_some A) (fun hs=>by
  obtain ⟨e,hn⟩:=D g cs T f hs A Q;exact hn (hi e)))
 il:=fun i hi=>cM (h.il i hi) k.size
 most:=h.most
def UR.keep{S:Nat->Prop}(h:UR w u)(k:bK S w w')(D:∀k,US u k->¬S k)(J:∀(k:Nat)(cs:Array ag)(T:TypeId)(f:Nat×Nat),S k->w.heap[k]? =some (Obj.cells cs T f)->MD T->T=3/\¬u.I k):UR w' u where
 up:=h.up.keep k (fun i hi=>D i (.inl hi)) (fun i cs T f hs C A=>by
  have e:=(J i cs T f hs C (A.elim .inl (fun h=> .inr (.inl h)))).1;subst e;exact absurd A zS)
 ud:=h.ud.keep k (fun i hi=>D i (.inr hi)) (fun i cs T f hs C A=>J i cs T f hs C (.inr (.inr A)))
 both:=h.both
 lets:=h.lets
def UR.below(h:UR w u)(k:am w w'):UR w' u:=h.keep (S:=fun _=>False) (.of_below k) (fun _ _ e=>e) (fun _ _ _ _ e=>e.elim)
def eE(w:af)(v:ag)(t:ae):Prop:=v=aA none 0 0\/∃g n c cs f,v=aA (some (aP g)) n c/\w.heap[g]? =some (Obj.cells cs 9 f)/\n<=1000/\∀i,i<n->cs[i]? =some (an t)
def eE.frame{t}(h:eE w v t)(k:∀(g:Nat)(cs:Array ag)(f:Nat×Nat),w.heap[g]? =some (Obj.cells cs 9 f)->w'.heap[g]? =w.heap[g]?):eE w' v t:=by
 rcases h with h|⟨g,n,c,cs,f,h1,h2,A⟩
 ·exact .inl h
 exact .inr ⟨g,n,c,cs,f,h1,(k g cs f h2).trans h2,A⟩
def Wc(u:ez):List ag:=[bu u.x,bu u.y]
structure WS(base:Nat)(w:af)(b:Nat)(lv hV gT:ag)(us:List ez)(ms:List (ag×Nat)):Prop where
 blk:aL w b #[lv,hV,gT] 31
 low:base<=b
 l:w.ownsRow base 86 2 lv us.length (us.flatMap Wc)
 ls:w.ownsRow base 22 1 hV ms.length (ms.map Prod.fst)
 ks:w.ownsRow base 3 1 gT ms.length (ms.map fun m=>au m.2)
 ur:∀u∈us,UR w u
 lowu:∀u∈us,∀k,US u k->base<=k
 ap:us.Pairwise (fun u v=>∀k,US u k->¬US v k)
 apk:∀u∈us,∀k,gT.ownBlock=some k->¬u.I k
 mrk:∀m∈ms,eE w m.1 (nW m.2)
 mks:∀m∈ms,m.2<=ms.length
variable {b:Nat} {hV gT:ag} {us:List ez}
def WS.below{ms}(h:WS base w b lv hV gT us ms)(k:am w w'):WS base w' b lv hV gT us ms:=
 ⟨h.blk.below k,h.low,aB h.l k,aB h.ls k,aB h.ks k,fun u D=>(h.ur u D).below k,h.lowu,h.ap,h.apk,fun m C=>(h.mrk m C).frame (fun g cs f A=>k.block g (lt_of_some A)),h.mks⟩
variable {i:Nat}
def WS.upd{ms}(h:WS base w b lv hV gT us ms){u'}(hi:us[i]? =some u)(k:bK (US u) w w')(au:UR w' u')(av:u'.x=u.x)(aw:u'.y=u.y)(ad:∀k,US u' k->US u k\/w.heap.size<=k)(ah:∀k,gT.ownBlock=some k->¬u'.I k):
  WS base w' b lv hV gT (us.set i u') ms/\Below base w w':=by
 have Q:i<us.length:=by
  rcases fD i us.length with h|h
  ·exact h
  rw [jD h] at hi;cases hi
 have U:us[i]=u:=by rw [aI Q] at hi;exact gM hi
 have Z:u∈us:=bF hi;have ae:=h.ur u Z;have ak:base<=w.heap.size:=by have:=h.low;have:=h.blk.lt;omega
 have key:∀(g:Nat)(cs:Array ag)(T:TypeId)(f:Nat×Nat),w.heap[g]? =some (Obj.cells cs T f)->¬UTy T->w'.heap[g]? =w.heap[g]? :=fun g cs T f A Y=>k.block g (lt_of_some A) (fun hs=>Y (ae.nty hs A))
 have R:=iW.1 h.ap;have al:(us.set i u').flatMap Wc=us.flatMap Wc:=by
  have e:us.set i u'=us.take i++u'::us.drop (i+1):=by rw [List.set_eq_take_append_cons_drop,if_pos Q]
  have af:us=us.take i++u::us.drop (i+1):=by rw [<-U,List.getElem_cons_drop,pL]
  rw [e]
  conv=>rhs;rw [af]
  simp [Wc,av,aw]
 have ar:∀j (C:j<us.length),i≠j->UR w' us[j]:=fun j C V=>(h.ur _ (br C)).keep k (fun q D hs=>by
   rcases wz V with J|J
   ·exact R i j Q C J q (by rw [U];exact hs) D
   ·exact R j i C Q J q D (by rw [U];exact hs))
  (fun q cs T f hs A Y=>absurd Y (by
   have:=ae.nty hs A
   rcases this with rfl|rfl|rfl|rfl<;>(unfold MD LT RT;decide)))
 refine ⟨⟨(key b _ _ _ h.blk Fb).trans h.blk,h.low,?_,ay h.ls (fun g cs f _ A=>key g cs _ f A Fb),ay h.ks (fun g cs f _ A=>key g cs _ f A Fb),fun v hv=> ?_,fun v hv=> ?_,?_,fun v hv=> ?_,fun m an=>(h.mrk m an).frame (fun g cs f A=>key g cs _ f A Fb),h.mks⟩,k.below ak (fun g am=>h.lowu u Z g am)⟩
 ·rw [al,fV];exact ay h.l (fun g cs f _ A=>key g cs _ f A Fb)
 ·obtain ⟨j,C,rfl⟩:=dB hv;rw [fV] at C
  by_cases e:i=j
  ·subst e;rw [jF];exact au
  rw [jM e];exact ar j C e
 ·rcases sH hv with hv|rfl
  ·exact h.lowu v hv
  intro q D
  rcases ad q D with e|e
  ·exact h.lowu u Z q e
  omega
 ·refine iW.2 (fun a c ha hc aj q D e=> ?_);rw [fV] at ha hc;have old:∀j (C:j<us.length),i≠j->US us[j] q->US u' q->False:=fun j C V h1 h2=>by
   rcases ad q h2 with e|e
   ·rcases wz V with J|J
    ·exact R i j Q C J q (by rw [U];exact e) h1
    exact R j i C Q J q h1 (by rw [U];exact e)
   have:=(h.ur _ (br C)).lt h1;omega
  by_cases ab:i=a
  ·subst ab;rw [jF] at D;rw [jM ai] at e;exact old c hc ai e D
  rw [jM ab] at D
  by_cases ac:i=c
  ·subst ac;rw [jF] at e;exact old a ha ai D e
  rw [jM ac] at e;exact R a c ha hc aj q D e
 ·rcases sH hv with hv|rfl
  ·exact h.apk v hv
  exact ah
def Zg(u:ez)(w:af)(c:Nat)(ts:List Ty)(gs:List Tu)(e:Ending)(w':af):Prop:=∃mv lv gv,e=bi (au c)/\N4 w' u.x mv lv gv ts gs/\bK (BG u.x u.gv) w w'/\∀k,BG u.x gv k->BG u.x u.gv k\/w.heap.size<=k
def Zh(u:ez)(w:af)(c:Nat)(ts:List Ty)(ss:List ae)(e:Ending)(w':af):Prop:=∃bm tv I,e=bi (au c)/\MX w' u.y bm tv ts ss I/\bK (Iy u.y u.tv) w w'/\(∀k,Iy u.y tv k->Iy u.y u.tv k\/w.heap.size<=k)/\∀k,I k->u.I k\/w.heap.size<=k
def Op2(f1 f2:Nat)(u:ez)(s:ae):Prop:=∀w,UR w u->Laid w->ko w->1<w.heap.size->∃c ts gs ss,(sW gs ss/\tZ ts gs)/\Calls prog f1 #[bu u.x,an s] w (Zg u w c ts gs)/\∀w',MX w' u.y u.bm u.tv u.ts u.ss u.I->Calls prog f2 #[bu u.y,an s] w' (Zh u w' c ts ss)
variable {c:Nat}
def MY(h:N4 w u.x u.mv u.lv u.gv u.ts u.gs)(k:am w w'):Zg u w c u.ts u.gs (bi (au c)) w':=⟨_,_,_,rfl,h.keep (S:=fun _=>False) (.of_below k) (fun _ _ e=>e) (fun _ _ _ _ e=>e.elim),.of_below k,fun _ h=> .inl h⟩
def MZ(h:MX w u.y u.bm u.tv u.ts u.ss u.I)(k:am w w'):Zh u w c u.ts u.ss (bi (au c)) w':=⟨_,_,_,rfl,h.keep (S:=fun _=>False) (.of_below k) (fun _ _ e=>e) (fun _ _ _ _ e=>e.elim),.of_below k,fun _ h=> .inl h,fun _ h=> .inl h⟩
def XS.fin{I}(h:XS ts I bm w):XS ts (fun k=>I k/\k<w.heap.size) bm w:=by
 obtain ⟨kv,rv,pv,kl,rl,pl,l,C,h1,h2,D,J⟩:=h;exact ⟨kv,rv,pv,kl,rl,pl,l,C,h1,h2,D,fun x A i hi=>⟨J x A i hi,((h1.dm.pt.rep x A).p.lt i hi).2⟩⟩
def Fe:sW [] []:=⟨rfl,fun _ h=>by cases h⟩
def load2(u s):Op2 27 83 u s:=by
 intro w R U ad h1
 cases J:dy s with
 |error er=>
  obtain ⟨o,c⟩:=er;have hc:=(oN J w).1;refine ⟨c,u.ts,u.gs,u.ss,⟨R.both,R.lets⟩,(zR u.x s w o c J hc U).mono fun e w' ⟨D,A⟩=> ?_,fun w' Q=> ?_⟩
  ·rw [D];exact MY R.up A
  obtain ⟨_,p,C⟩:=oN J w';refine (Mv u.y s w' _ _ _ Q.d c p hc C).mono fun e w'' ⟨D,A⟩=> ?_
  rw [D];exact MZ Q A
 |ok ts=>
  refine ⟨0,ts,[],[],⟨Fe,fun _ h=>by cases h⟩,(Ep Y2 QC wF u.x s w _ _ _ R.up.p.blk ts J U).mono fun e w' ⟨mv,lv,bm,tl,D,ab,Z,Y,A⟩=> ?_,fun w' Q=> ?_⟩
  ·exact ⟨mv,lv,_,D,⟨ab,⟨bm,tl,Z⟩,Y⟩,A.mono (fun k e=> .inl e),fun k I=>by
    rcases I with e|⟨n,c,e⟩
    ·exact .inl (.inl e)
    cases e⟩
  refine (QD u.y s w' _ _ _ Q.d (XS ts (fun k=>w'.heap.size<=k)) (fun bm w w' h k=>h.kd k) (Af J w')).mono fun e w'' ⟨bm,D,V,ac,A⟩=> ?_
  exact ⟨bm,_,_,D,⟨V,ac.fin,fun k I=>I.2,ar⟩,A.mono (fun k e=> .inl e),(fun k I=>by
   rcases I with e|⟨n,c,e⟩
   ·exact .inl (.inl e)
   cases e),fun k I=> .inr I.1⟩
def KD.of_dus{y I}(h:MX w y bm tv ts ss I)(k:bK (Iy y tv) w w'):KD w w':=KD.of_butS k (fun g cs T f hs C J=>by
 obtain ⟨Q,T',A,D⟩:=h.ty hs;unfold aL at A;rw [A] at C
 cases C
 rcases D with rfl|rfl<;>exact absurd J Et)
def KI{r:Nat×List Tu}{e}(I:UR w u)(h:ky u.x u.mv u.lv u.gv w r e w'):Zg u w r.1 u.ts r.2 e w':=by
 obtain ⟨Q,U,Z,D,V⟩:=h;have key:∀(k:Nat)(cs:Array ag)(T:TypeId)(f:Nat×Nat),BG u.x u.gv k->w.heap[k]? =some (Obj.cells cs T f)->¬((T=207\/T=159\/T=110)\/LT T):=fun k cs T f hs A C=>by
  obtain ⟨ab,T',J,R⟩:=I.up.ty hs;unfold aL at J;rw [J] at A
  cases A
  rcases R with rfl|rfl<;>exact absurd C zS
 refine ⟨_,_,Q,U,⟨Z,?_,?_⟩,D,V⟩
 ·obtain ⟨bm,tl,Y⟩:=I.up.m;exact ⟨bm,tl,Y.kt (fun g cs T f A C=>D.block g (lt_of_some A) (fun hs=>key g cs T f hs A (.inl C))) D.size⟩
 obtain ⟨qs,h1,h2⟩:=I.up.l;exact ⟨qs,h1.frame (fun g cs T f A C=>D.block g (lt_of_some A) (fun hs=>key g cs T f hs A (.inr C))),h2⟩
def KJ{r:Nat×List ae}{e}(C:MX w u.y u.bm u.tv u.ts u.ss u.I)(h:i6 u.y (.pointer (some (aC u.bm 5))) u.tv w r e w')(R:r.2.length<=24):Zh u w r.1 u.ts r.2 e w':=by
 obtain ⟨V,J,U,A,Q⟩:=h;exact ⟨_,V,u.I,J,⟨U,C.r.kd (KD.of_dus C A),fun k D=>cM (C.il k D) A.size,R⟩,A,Q,fun k D=> .inl D⟩
variable {rl:List RV} {s:ae}
def Wd{dP}(h:ss.length<=24):(UJ rl dP ss s).2.length<=24:=by
 unfold UJ
 split
 ·exact h
 split
 ·exact h
 split
 ·exact h
 split
 ·exact h
 split
 ·exact h
 simp;omega
def Sq(h:ss.length<=24):(EW ss s).2.length<=24:=by
 unfold EW
 split
 ·exact h
 split
 ·exact h
 have:=List.length_eraseIdx_le ss (kz ss s).toNat;simp only
 first|omega|(rw [Bp] at this;simp at*;omega)
def Sr(h:sW gs ss):gs.length=ss.length:=by rw [h.eq,bN]
def Zi(u s)(hs:s.size<=maxLen):Op2 28 84 u s:=by
 intro w A ad af h1;obtain ⟨bm,tl,ag⟩:=A.up.m;obtain ⟨kv,rv,pv,kl,rl,pl,l,J,aw,ah,av,_⟩:=A.ud.r;have hl:=Sr A.both;have ak:=A.ud.most;obtain ⟨e1,C⟩:=xi ah A.both s;refine ⟨(VL u.ts u.gs s).1,u.ts,(VL u.ts u.gs s).2,(UJ rl J u.ss s).2,⟨C,Wa A.lets s⟩,(Hz MW u.x bm s w _ _ _ _ u.ts tl A.up.p ag af h1 ad ai).mono fun e w' h=>KI A h,fun w' D=> ?_⟩;obtain ⟨an,au,pv',am,U,kQ,ap,Q,ac,aj,ab,_⟩:=D.r;obtain ⟨Z,R⟩:=xi aj A.both s;have al:(UJ rl J u.ss s).2=(UJ U Q u.ss s).2:=by
  have V:=C.eq;have Y:=R.eq;have inj:∀(l m:List ae),(∀y∈l,dM y=true)->(∀y∈m,dM y=true)->l.map uy=m.map uy->l=m:=by
   intro l
   induction l with
   |nil=>intro m _ _ h;cases m with
    |nil=>rfl
    |cons _ _=>simp at h
   |cons x l ih=>intro m h1 h2 h;cases m with
    |nil=>simp at h
    |cons y m=>
     simp only [bY,kX] at h;rw [KA (h1 x ar) (h2 y ar) h.1,ih m (fun z I=>h1 z (by simp [I])) (fun z I=>h2 z (by simp [I])) h.2]
  exact inj _ _ C.ok R.ok (V.symm.trans Y)
 rw [al,Z];exact (IA u.y u.bm s w' an au pv' _ am U kQ ap u.ss Q D.d ac.dm ab.1 hs ai).mono fun e w'' h=>KJ D h (Wd ak)
def We(u s)(hs:s.size<=maxLen):Op2 35 85 u s:=by
 intro w A J I h1;obtain ⟨e1,D⟩:=RY A.both s;refine ⟨(BH u.gs s).1,u.ts,(BH u.gs s).2,(EW u.ss s).2,⟨D,Sd A.lets s⟩,(D6 MW u.x s w _ _ _ _ A.up.p I h1).mono fun e w' h=>KI A h,fun w' C=> ?_⟩;rw [e1];exact (EX u.y s w' _ _ _ C.d hs).mono fun e w'' h=>KJ C h (Sq A.ud.most)
abbrev gt(a0:Nat)(a1:Nat):Obj:=.cells #[bu a0,bu a1] 86
abbrev mM(a0:Int)(a1:Int)(a2:ae)(a3:ae)(a4:ae):Obj:=.cells #[au a0,au a1,an a2,an a3,an a4] 34
def Ff (h:aD:=by
 have:=bw.size;omega):aD:=h
def Ss (h:aD:=by
 go_enter func46,ntmps46;go_wp2_with fail;refine C1'.mono ?_;rintro e w1 ⟨af,ae,ad,rfl,Z,A,U⟩;have C:=CD' w1 (Fg hu A);have I:=PB.butS A hu ax;have J:=SB.butS A hu ax;obtain ⟨ag,p1⟩:=gh I;have ah:w1.cell? (aC (w.heap.size+1) 2)=some (an s):=J.cell rfl;go_wp2_with fail;refine C.mono ?_;rintro e aj ⟨ac,ai,ab,rfl,R,Q,V,Y⟩;have D:=Su h hi hu bw hbo Z A U R Q V Y;go_wp2;go_ret;exact ⟨rfl,D⟩):aD:=h
variable {w1:af}
def Fg(C:UR w u)(R:bK (BG u.x u.gv) w w1):MX w1 u.y u.bm u.tv u.ts u.ss u.I:=C.ud.keep R (fun k U hs=>by
  obtain ⟨cs,T,h1,h2⟩:=C.ud.ty U;obtain ⟨Q,T',A,D⟩:=C.up.ty hs;unfold aL at h1 A;rw [h1] at A
  cases A
  rcases h2 with rfl|rfl<;>exact absurd D ax)
 (fun k cs T f hs J V=>by
  obtain ⟨Q,T',A,D⟩:=C.up.ty hs;unfold aL at A;rw [A] at J
  cases J
  rcases D with rfl|rfl<;>exact absurd V Et)
variable {g:Nat}
def aL.butS(h:aL w g cs T)(D:bK (BG u.x u.gv) w w1)(J:UR w u)(I:¬(T=117\/T=123)):aL w1 g cs T:=D.blk h (fun hs=>by
 obtain ⟨Q,T',A,C⟩:=J.up.ty hs;unfold aL at h A;rw [h] at A
 cases A
 exact I C)
def Sv(base b:Nat)(lv hV gT:ag)(us:List ez)(h:List (ag×Nat))(i:Nat)(w w':af):Prop:=(∃u',WS base w' b lv hV gT (us.set i u') h)/\Below base w w'
variable {W:af}
def Su{ms w2}(h:WS base w b lv hV gT us ms)(hi:us[i]? =some u)(ap:UR W u)(R:am w W)(V:sW gs ss/\tZ ts gs){mv1 lv1 gv1}(ab:N4 w1 u.x mv1 lv1 gv1 ts gs)(Q:bK (BG u.x u.gv) W w1)(ah:∀k,BG u.x gv1 k->BG u.x u.gv k\/W.heap.size<=k){bm2 tv2 I2}(ag:MX w2 u.y bm2 tv2 ts ss I2)(U:bK (Iy u.y u.tv) w1 w2)(aj:∀k,Iy u.y tv2 k->Iy u.y u.tv k\/w1.heap.size<=k)(ak:∀k,I2 k->u.I k\/w1.heap.size<=k):Sv base b lv hV gT us ms i w w2:=by
 have Y:=Fg ap Q;have av:=Q.size;have al:N4 w2 u.x mv1 lv1 gv1 ts gs:=ab.keep U (fun k A hs=>by
   obtain ⟨cs,T,h1,h2⟩:=ab.ty A;obtain ⟨ac,T',C,D⟩:=Y.ty hs;unfold aL at h1 C;rw [h1] at C
   cases C
   rcases h2 with rfl|rfl<;>exact absurd D ax)
  (fun k cs T f hs Z an=>by
   obtain ⟨ac,T',C,D⟩:=Y.ty hs;unfold aL at C;rw [C] at Z
   cases Z
   rcases D with rfl|rfl<;>exact absurd an zS)
 have J:=h.below R;have ae:bK (US u) W w2:=(Q.mono (fun k e=> .inl e)).trans (U.mono (fun k e=> .inr e));obtain ⟨ar,au⟩:=J.upd (u':=⟨u.x,u.y,bm2,mv1,lv1,gv1,tv2,ts,gs,ss,I2⟩) hi ae ⟨al,ag,V.1,V.2⟩ rfl rfl (fun k A=>by
  rcases A with A|A
  ·rcases ah k A with e|e
   ·exact .inl (.inl e)
   exact .inr e
  ·rcases aj k A with e|e
   ·exact .inl (.inr e)
   exact .inr ai) (fun k A ad=>by
  rcases ak k ad with e|e
  ·exact J.apk u (bF hi) k A e
  have:=(J.ks.lt k A).2;omega)
 have af:base<=w.heap.size:=by have:=h.low;have:=h.blk.lt;omega
 exact ⟨⟨_,ar⟩,(R.mono af).trans au⟩
def Fh{ms}(h:WS base w b lv hV gT us ms)(hi:us[i]? =some u)(kd ee s rr ww)(hs:s.size<=maxLen)(ak:Laid w)(al:ko w)(h1:1<w.heap.size):
  Calls prog 46 #[.agg #[bu u.x,bu u.y],.agg #[au kd,au ee,an s,an rr,an ww]] w fun e w'=>e=bi (.bool true)/\Sv base b lv hV gT us ms i w w':=by
 have bw:am w ((w.alloc (gt u.x u.y)).alloc (mM kd ee s rr ww)):=((az _ w).alloc aH _).alloc ar _;have hu:=(h.ur u (bF hi)).below bw;have aw:=load2 u s ((w.alloc (gt u.x u.y)).alloc (mM kd ee s rr ww)) hu (ak.below bw ai) (al.below bw ai) Ff;have ay:=Zi u s hs ((w.alloc (gt u.x u.y)).alloc (mM kd ee s rr ww)) hu (ak.below bw ai) (al.below bw ai) Ff;have av:=We u s hs ((w.alloc (gt u.x u.y)).alloc (mM kd ee s rr ww)) hu (ak.below bw ai) (al.below bw ai) Ff;have PB:=(aL.new w #[bu u.x,bu u.y] 86).alloc (mM kd ee s rr ww);have SB:=aL.new' (w.alloc (gt u.x u.y)) #[au kd,au ee,an s,an rr,an ww] 34 (w.heap.size+1) ar
 by_cases k3:kd=3
 ·obtain ⟨c,ts,gs,ss,hbo,C1',CD'⟩:=aE aw;subst k3;exact Ss
 ·have aA:(kd==3)=false:=by simpa using k3
  by_cases ap:kd=4
  ·obtain ⟨c,ts,gs,ss,hbo,C1',CD'⟩:=aE ay;subst ap;exact Ss
  have aB:(kd==4)=false:=by simpa using ap
  obtain ⟨c,ts,gs,ss,hbo,C1',CD'⟩:=aE av;exact Ss
def Cv(w w':af)(v:ag)(e:TypeId)(A:List ag):Prop:=∀(k:Nat)(cs:Array ag)(f:Nat×Nat),v.ownBlock=some k->w.heap[k]? =some (Obj.cells cs e f)->∃h,w'.heap[k]? =some (Obj.cells h e f)/\∀j:Nat,h[j]? =cs[j]? \/∃u∈A,h[j]? =some u
variable {P:Program}
def xp(w:af)(t ty:TypeId)(base:Nat)(e:TypeId)(i:TypeInfo)(z:ag)(bytes:Nat)(ah:P.underlying t=some (.slice e))(hi:P.info? e=some i)(ar:i.zero=some z)
  (R:i.size=1) (al:i.bytes=bytes) (aL:z.cells.size=1)
  (v:ag) (n:Nat) (D:List ag) (J:w.ownsRow base e 1 v n D)
  (U:Addr) (m c:Nat) (A:List ag) (Y:A.length=m*1) (ad:∀j u,A[j]? =some u->w.cell? (U.add j)=some u) (h1:∀u∈A,u.oneCell'=true)
  (aE:0<m) (ak:n+m<=maxLen) (am:(n+m)*bytes<=140737488355328) (hbase:base<=w.heap.size) (H:Nat) (az:w.heap.size=H):
  ∃g cap w',(Builtin.append_ #[t,t] ty #[v,.slice (some U) m c]).run P w=.ok (.slice (some ⟨g,0,none⟩) (n+m) cap) w'/\
   w'.ownsRow base e 1 (.slice (some ⟨g,0,none⟩) (n+m) cap) (n+m) (D++A)/\w.grownBy w' v.ownBlock/\(v.ownBlock=some g\/g=H)/\g<w'.heap.size/\w'.ownsRow base e 1 v n D/\
   Cv w w' v e A:=by
 obtain ⟨g5,be,w5,ae,aN,av,au,aM⟩:=run_append_lies (P:=P) w t ty base e i z 1 bytes ah hi ar R al aL ax v n D J U m c A Y ad h1 aE ak am hbase H az;refine ⟨g5,be,w5,ae,aN,av,au,aM,?_⟩
 rcases J.2 with ⟨rfl,rfl⟩|⟨g,cap,C,rfl,aA,ac,aF,aB,an,aH⟩
 ·have aJ:D=[]:=iL (by simpa using J.1);subst aJ;exact ⟨bP,fun k cs f Q=>by cases Q⟩
 ·by_cases aG:n+m<=cap
  ·have aC:n*i.size+A.length<=C.size:=by rw [Y,an,R];omega
   have ab:=run_append_room (P:=P) w t ty e i ah hi g n cap C ac U m c A (by rw [R];exact Y) ad h1 aG aC;have V:=ab.symm.trans ae;simp only [Result.ok.injEq,aK] at V;obtain ⟨_,rfl⟩:=V;rw [R] at ab ⊢;have I:(w.setRow g (C.toList.take (n*1)++A++C.toList.drop (n*1+A.length)).toArray).heap[g]? =some (.cells (C.toList.take (n*1)++A++C.toList.drop (n*1+A.length)).toArray e (0,0)):=setRow_heap w g C _ e _ ac;have Z:(C.toList.take (n*1)).length=n:=by rw [eb,rS,an];omega
   refine ⟨⟨J.1,.inr ⟨g,cap,_,rfl,aA,I,aF,aB,?_,?_⟩⟩,fun k cs f Q ap=> ?_⟩
   ·simp only [sA,bf,eb,nh,Array.length_toList];omega
   ·rw [<-aH,ct];exact sq (by rw [Z];omega)
   simp only [Value.ownBlock,aR] at Q;subst Q;rw [ac] at ap
   cases ap
   refine ⟨_,I,fun j=> ?_⟩
   rcases fD j n with h|h
   ·left;rw [List.getElem?_toArray,ct,nF ai,Gx ai];simp
   rcases fD j (n+A.length) with aw|aw
   ·right;rw [List.getElem?_toArray,ct,nG ai,Z,nF ai,aI ai];exact ⟨_,br _,rfl⟩
   left;rw [List.getElem?_toArray,nG (by rw [bf,Z];omega),rV];rw [bf,Z];rw [show n*1+A.length+(j-(n+A.length))=j by omega];simp
  have holds:∀j u,D[j]? =some u->w.cell? ((⟨g,0,none⟩:Addr).add j)=some u:=J.cells (g:=g) rfl;have ab:=run_append_grow (P:=P) w t ty e i z ah hi ar ⟨g,0,none⟩ n cap D (by rw [R];exact J.1) holds U m c A (by rw [R];exact Y) ad ai (by simp only [maxLen] at ak;omega) (growslice_fits ai (by rw [al];exact am));have V:=ab.symm.trans ae;simp only [Result.ok.injEq,aK] at V;obtain ⟨_,rfl⟩:=V;have aj:∀k,k<w.heap.size->(w.drew.alloc (.cells (D.toArray++A.toArray++Builtin.zeroCells z.cells (grownCap w (n+m) cap e-(n+m))) e)).heap[k]? =w.heap[k]? :=fun k Q=>heap_alloc_old w.drew _ Q
  refine ⟨ay J (fun k cs f _ I=>aj k (lt_of_some I)),fun k cs f _ I=>⟨cs,(aj k (lt_of_some I)).trans I,fun j=> .inl rfl⟩⟩
variable {rest:List Oper}
def iy(w:af){I:Array Oper}{o:Oper}{a:Act}{Q:Exit->Act->af->Prop}(ah:o.guard=none)(s x:Operand)(t:TypeId)
  (ho:o.op=.call {callee:=.builtin .append,args:=#[s,x],argTypes:=#[t,t]})
  (base:Nat) (e:TypeId) (i:TypeInfo) (z:ag) (bytes:Nat) (an:P.underlying t=some (.slice e)) (hi:P.info? e=some i) (ap:i.zero=some z)
  (am:i.size=1) (ad:i.bytes=bytes) (ar:z.cells.size=1)
  (v:ag) (n:Nat) (C:List ag) (hs:a.eval s=v) (al:w.ownsRow base e 1 v n C)
  (D:Addr) (m c:Nat) (A:List ag) (hx:a.eval x=.slice (some D) m c) (ai:A.length=m*1) (ak:∀j u,A[j]? =some u->w.cell? (D.add j)=some u) (h1:∀u∈A,u.oneCell'=true)
  (aj:0<m) (Y:n+m<=maxLen) (ae:(n+m)*bytes<=140737488355328) (hbase:base<=w.heap.size) (H:Nat) (ab:w.heap.size=H)
  (h:∀g cap w',w'.ownsRow base e 1 (.slice (some ⟨g,0,none⟩) (n+m) cap) (n+m) (C++A)->w.grownBy w' v.ownBlock->(v.ownBlock=some g\/g=H)->g<w'.heap.size->w'.ownsRow base e 1 v n C->
   Cv w w' v e A->wpList P I Q rest (a.put o.dst (.slice (some ⟨g,0,none⟩) (n+m) cap)) w'):wpList P I Q (o::rest) a w:=
 wpList_plain ah fun _ ac=>by
  obtain ⟨g,cap,w',hr,h2,J,R,U,V,Z⟩:=xp (P:=P) w t o.type base e i z bytes an hi ap am ad ar v n C al D m c A ai ak h1 aj Y ae hbase H ab;refine O3 ?_;exact ac _ _ (h g cap w' h2 J R U V Z)
variable {v1:ag}
def eE.app{t news}(h:eE w v1 t)(Q:w.grownBy w' v.ownBlock)(U:∀u∈news,u=an t)(R:Cv w w' v 9 news):eE w' v1 t:=by
 rcases h with h|⟨g,n,c,cs,f,h1,h2,A,C⟩
 ·exact .inl h
 by_cases e:v.ownBlock=some g
 ·obtain ⟨D,I,J⟩:=R g cs f e h2;refine .inr ⟨g,n,c,D,f,h1,I,A,fun i hi=> ?_⟩
  rcases J i with h|⟨u,V,h⟩
  ·rw [h];exact C i hi
  rw [h,U u V]
 exact .inr ⟨g,n,c,cs,f,h1,(Q.block g (lt_of_some h2) (fun e'=>e e'.symm)).trans h2,A,C⟩
def eE.of_own{t}(h:w.ownsRow base 9 1 v n (List.replicate n (an t)))(D:n<=1000):eE w v t:=by
 rcases h.2 with ⟨rfl,rfl⟩|⟨g,cap,A,rfl,_,C,hc,_,J,I⟩
 ·exact .inl rfl
 refine .inr ⟨g,n,cap,A,(0,0),rfl,C,D,fun i hi=> ?_⟩;have h1:(A.toList.take (n*1))[i]? =some (an t):=by rw [I];simp [hi]
 rw [Gx ai] at h1
 simpa using h1
def KK (h:aD:=by
 unfold MD LT RT;decide):aD:=h
def jZ(lim:Nat)(w:af)(v:ag)(t:ae):Prop:=v=aA none 0 0\/∃g n c cs f,v=aA (some (aP g)) n c/\g<lim/\w.heap[g]? =some (Obj.cells cs 9 f)/\n<=1000/\∀i,i<n->cs[i]? =some (an t)
def eE.lim{t:ae}(h:eE w v t):jZ w.heap.size w v t:=by
 rcases h with h|⟨g,n,c,cs,f,h1,h2,A⟩
 ·exact .inl h
 exact .inr ⟨g,n,c,cs,f,h1,lt_of_some h2,h2,A⟩
def jZ.below{lim t}(h:jZ lim w v t)(k:Below lim w w'):jZ lim w' v t:=by
 rcases h with h|⟨g,n,c,cs,f,h1,h2,A,C⟩
 ·exact .inl h
 exact .inr ⟨g,n,c,cs,f,h1,h2,(k.block g h2).trans A,C⟩
def jZ.out{lim t}(h:jZ lim w v t):eE w v t:=by
 rcases h with h|⟨g,n,c,cs,f,h1,h2,A⟩
 ·exact .inl h
 exact .inr ⟨g,n,c,cs,f,h1,A⟩
def OS(b:Nat)(hV gT v:ag)(k:Nat):Prop:=k=b\/hV.ownBlock=some k\/gT.ownBlock=some k\/v.ownBlock=some k
def M0{lim:Nat}{A:List (ag×Nat)}(h:WS base w b lv hV gT us A)(af:base<=lim)(aA:lim<=w.heap.size)(ab:w.ownsRow lim 9 1 v n xs)(aC:∀m∈A,jZ lim w m.1 (nW m.2))(aF:∀k,hV.ownBlock=some k->k<lim)(k:bK (OS b hV gT v) w w')
  {ac Y:ag} {ad ae:ag} (an:aL w' b #[lv,ac,Y] 31) (az:w'.ownsRow base 22 1 ac (A.length+4) (A.map Prod.fst++[v,v1,ad,ae])) (ax:w'.ownsRow base 3 1 Y (A.length+4) (A.map (fun m=>au m.2)++[au A.length,au A.length,au A.length,au A.length])) (aw:∀k,Y.ownBlock=some k->gT.ownBlock=some k\/w.heap.size<=k)
  (h0:eE w' v (nW A.length)) (h1:eE w' v1 (nW A.length)) (h2:eE w' ad (nW A.length)) (ak:eE w' ae (nW A.length)):
  ∃ah,WS base w' b lv ac Y us ah/\Below base w w'/\ah.length=A.length+4:=by
 have ty:∀(g:Nat)(cs:Array ag)(T:TypeId)(f:Nat×Nat),OS b hV gT v g->w.heap[g]? =some (Obj.cells cs T f)->T=31\/T=22\/(T=3/\gT.ownBlock=some g)\/T=9:=fun g cs T f hs D=>by
  have R:=h.blk
  rcases hs with rfl|e|e|e
  ·unfold aL at R;rw [R] at D
   cases D
   exact .inl rfl
  ·obtain ⟨V,C⟩:=nR h.ls e;unfold aL at C;rw [C] at D
   cases D
   exact .inr (.inl rfl)
  ·obtain ⟨V,C⟩:=nR h.ks e;unfold aL at C;rw [C] at D
   cases D
   exact .inr (.inr (.inl ⟨rfl,e⟩))
  obtain ⟨V,C⟩:=nR ab e;unfold aL at C;rw [C] at D
  cases D
  exact .inr (.inr (.inr rfl))
 have av:base<=w.heap.size:=aV af aA;have bel:Below base w w':=k.below av (fun g U=>by
  rcases U with rfl|e|e|e
  ·exact h.low
  ·exact (h.ls.lt g e).1
  ·exact (h.ks.lt g e).1
  exact aV af (ab.lt g e).1)
 refine ⟨A++[(v,A.length),(v1,A.length),(ad,A.length),(ae,A.length)],⟨an,h.low,ay h.l (fun g cs f _ D=>k.block g (lt_of_some D) (fun hs=>by
   have:=ty g cs _ f hs D;simp at this)),by simpa using az,by simpa using ax,fun u Q=>(h.ur u Q).keep k (fun g U hs=> ?_) (fun g cs T f hs D Z=> ?_),h.lowu,h.ap,fun u Q g U=> ?_,fun m I=> ?_,fun m I=> ?_⟩,bel,ar⟩
 ·obtain ⟨cs,T,C,am⟩:=(h.ur u Q).ty U;have:=ty g cs T _ hs C
  rcases am with rfl|rfl|rfl|rfl<;>(simp at this)
 ·rcases ty g cs T f hs D with rfl|rfl|⟨rfl,e⟩|rfl
  ·exact absurd Z KK
  ·exact absurd Z KK
  ·exact ⟨rfl,h.apk u Q g e⟩
  exact absurd Z KK
 ·rcases aw g U with e|e
  ·exact h.apk u Q g e
  intro al;have:=(h.ur u Q).ud.il g al;omega
 ·rcases aW.1 I with I|I
  ·refine jZ.out (lim:=lim) ?_
   rcases aC m I with aB|⟨g,aE,c,cs,f,e1,ai,J,aj⟩
   ·exact .inl aB
   refine .inr ⟨g,aE,c,cs,f,e1,ai,(k.block g (lt_of_some J) (fun hs=> ?_)).trans J,aj⟩
   rcases hs with e|e|e|e
   ·subst e;have R:=h.blk;unfold aL at R;rw [R] at J;simp at J
   ·obtain ⟨V,C⟩:=nR h.ls e;unfold aL at C;rw [C] at J;simp at J
   ·obtain ⟨V,C⟩:=nR h.ks e;unfold aL at C;rw [C] at J;simp at J
   have:=(ab.lt g e).1;omega
  simp only [cG,iT,jG] at I
  rcases I with rfl|rfl|rfl|rfl
  ·exact h0
  ·exact h1
  ·exact h2
  exact ak
 ·rw [bf]
  rcases aW.1 I with I|I
  ·have:=h.mks m I;omega
  simp only [cG,iT,jG] at I
  rcases I with rfl|rfl|rfl|rfl<;>simp
section
abbrev IM:=@List.replicate_append_replicate
abbrev xr(a0:ae):Obj:=.cells #[.string a0,.string a0] 9
abbrev xu(a0:ae):Obj:=.cells #[.string a0,.string a0,.string a0] 9
abbrev Cw(a0:Int):Obj:=.cells #[.int .i64 a0,.int .i64 a0,.int .i64 a0,.int .i64 a0] 3
variable {l:List ae}
def Sw{M:ae}(A:k<l.length):(List.replicate k (Value.string M)++(dO l).drop k).set k (an M)=List.replicate (k+1) (an M)++(dO l).drop (k+1):=by
 have hl:(dO l).length=l.length:=by simp [dO]
 rw [c8 ai,r9 _ _ ar,vV,Nat.sub_self,List.set_cons_zero,List.replicate_succ'];simp
def Wf{M:ae}(A:k<l.length):∃x,(List.replicate k (Value.string M)++(dO l).drop k)[k]? =some (an x):=by
 refine ⟨l[k],?_⟩;rw [nG ar];simp [dO,A]
variable {lim m:Nat}
def KL{r:ag}{I:List ag}(h:w.ownsRow base e size r n xs)(k:bK (fun q=>v.ownBlock=some q) w w')(D:w.ownsRow lim 9 1 v m I)(C:e≠9):w'.ownsRow base e size r n xs:=
 ay h (fun g cs f _ A=>k.block g (lt_of_some A) (fun e'=>dV D A C e'.symm))
def Tryz.infoSts:(Tryz.prog.info? 22).map (fun i=>(i.zero,i.size,i.bytes))=some (some (aA none 0 0),1,24):=by kernel_rfl
def KM{A:List (ag×Nat)}(h:WS base w b lv hV gT us A)(cz:base<=lim)(cB:lim<=w.heap.size)(l:List ae)(aF:w.ownsRow lim 9 1 v l.length (dO l))(c7:l.length<=100)(cC:∀m∈A,jZ lim w m.1 (nW m.2))(cA:∀k,hV.ownBlock=some k->k<lim)(c8:A.length+4<=8796093022208)(bG:nV w):
  Calls prog 89 #[.pointer (some ⟨b,0,none⟩),v] w fun e w'=>e=.returned (.tuple #[])/\∃cP cO bM,WS base w' b lv cP cO us bM/\Below base w w'/\bM.length=A.length+4:=by
 obtain ⟨i0,a6,a8,a9,ba⟩:=eN Tryz.infoStr;obtain ⟨cL,cu,cI,cJ,cK⟩:=eN Tryz.infoSts;obtain ⟨cM,cw,cE,cF,cH⟩:=eN Tryz.infoInt;obtain ⟨bJ,bL,rfl⟩:=aw h.ls;obtain ⟨a1,a2,rfl⟩:=aw h.ks;obtain ⟨U,R,rfl⟩:=aw aF;obtain ⟨cQ,cR,rfl⟩:=aw h.l;obtain ⟨c0,c1,c2⟩:=three h.blk;have C:=Es A.length w ai bG;have c6:=h.blk.lt;generalize aZ:nW A.length=M at*;clear bG;go_enter func89,ntmps89;go_wp2_with fail;refine C.mono ?_;rintro e w1 ⟨rfl,aA⟩;have c9:=aA.size;clear C c0 c1 c2;go_wp2_with fail
 go_loopw [6] (fun u wr=>∃k:Nat,k<=l.length/\u=.int .i64 k/\bK (fun q=>(Value.slice U l.length R).ownBlock=some q) w1 wr/\wr.ownsRow lim 9 1 (.slice U l.length R) l.length (List.replicate k (.string M)++(dO l).drop k)) (fun u _=>l.length-(intOf u).toNat)
 ·exact ⟨0,ai,rfl,bK.refl _ _,by simpa using aB aF aA⟩
 ·obtain ⟨k,V,rfl,aC,al⟩:=hrel
  by_cases bE:k<l.length
  ·have cy:(k:Int)<(l.length:Int):=by omega
   obtain ⟨x,bH⟩:=Wf (M:=M) bE;obtain ⟨g,c,e1,k0⟩:=aY al k _ bH;simp only [aK,bX] at e1;obtain ⟨rfl,rfl⟩:=e1;obtain ⟨c4,bD,_⟩:=dG al;have df:=bD.fz;have b9:=oC al k (.string M);have bV:=aC.set (show (fun q=>(Value.slice (some ⟨g,0,none⟩) l.length R).ownBlock=some q) (⟨g,k,none⟩:Addr).block from rfl) (.string M);have cb:=Sw (M:=M) bE;clear aC al bD bH;go_wp2;go_roundw
   ·exact ⟨k+1,ai,by go_num,bV,by rw [<-cb];exact b9⟩
   simp [intOf];omega
  have cy:¬((k:Int)<(l.length:Int)):=ai;have cx:k=l.length:=ai;subst cx;rw [eC (by simp [dO]),dU] at al;have ck:=(bK.of_below (S:=fun q=>(Value.slice U l.length R).ownBlock=some q) aA).trans aC;have K0:=aC.blk (h.blk.below aA) (fun e=>own_ne (aB aF aA) (h.blk.below aA) ax e.symm);have db:=aC.size;clear aC;have br:=al.alloc (.cells #[.string M] 9);have bi:=j9 (B:=wr.heap.size) (cs:=#[.string M]) (t:=9) (fr:=(0,0)) (aL.new wr #[.string M] 9);have bl:=(show ∀u∈([.string M]:List ag),u.oneCell'=true from by
   intro u J;simp at J;subst J
   rfl)
  have bu:=show l.length+1<=maxLen from by unfold maxLen;omega
  have bc:=show lim<=(wr.alloc (.cells #[.string M] 9)).heap.size from aS
  go_wp2_with (at_builtin;go_must (refine iy _ rfl _ _ 22 rfl lim 9 i0 _ 16 underlying22 a6 a8 a9 ba rfl (.slice U l.length R) l.length (List.replicate l.length (.string M)) rfl br ⟨wr.heap.size,0,none⟩ 1 1 [.string M] rfl rfl bi bl ax bu (show (l.length+1)*16<=140737488355328 from ai) bc (wr.heap.size+1) (show (wr.alloc (.cells #[.string M] 9)).heap.size=wr.heap.size+1 from ar) ?Zj))
  case Zj=>
   intro g5 be w5 bN aW co dg bS cN;have aU:=(az wr.heap.size wr).alloc aH (.cells #[.string M] 9);have cl:=(ck.trans (.of_below aU)).trans (dE aW (fun k V=>V));have D:=K0.below aU;have ce:=show aL w5 b _ 31 from (aW.block b D.lt (own_ne (al.alloc (.cells #[.string M] 9)) D ax)).trans D
   have bA:=eE.of_own (n:=l.length+1) (t:=M) (by rw [show List.replicate (l.length+1) (Value.string M)=List.replicate l.length (.string M)++[.string M] by rw [show ([.string M]:List ag)=List.replicate 1 (.string M) from rfl,IM]];exact bN) ai;have cD:∀u∈([.string M]:List ag),u=.string M:=by
    intro u J
    simpa using J
   have dc:wr.heap.size<=w5.heap.size:=Nat.le_trans aU.size aW.size
   clear D bN aW co cN aU br bi bl bu bc cD;have bs:=bS.alloc (xr M);have bj:=j9 (B:=w5.heap.size) (cs:=#[.string M,.string M]) (t:=9) (fr:=(0,0)) (aL.new w5 #[.string M,.string M] 9);have bn:=(show ∀u∈([.string M,.string M]:List ag),u.oneCell'=true from by
    intro u J;simp at J;subst J
    rfl)
   have bv:=show l.length+2<=maxLen from by unfold maxLen;omega
   have bf:=show lim<=(w5.alloc (xr M)).heap.size from aS
   go_wp2_with (at_builtin;go_must (refine iy _ rfl _ _ 22 rfl lim 9 i0 _ 16 underlying22 a6 a8 a9 ba rfl (.slice U l.length R) l.length (List.replicate l.length (.string M)) rfl bs ⟨w5.heap.size,0,none⟩ 2 2 [.string M,.string M] rfl rfl bj bn ax bv (show (l.length+2)*16<=140737488355328 from ai) bf (w5.heap.size+1) (show (w5.alloc (xr M)).heap.size=w5.heap.size+1 from ar) ?Zk))
   case Zk=>
    intro ah ad Y bO aM cp dh bT bI;have aI:=(az w5.heap.size w5).alloc aH (xr M);have cm:=(cl.trans (.of_below aI)).trans (dE aM (fun k V=>V));have D:=ce.below aI;have cf:=show aL Y b _ 31 from (aM.block b D.lt (own_ne (bS.alloc (xr M)) D ax)).trans D
    have bC:=eE.of_own (n:=l.length+2) (t:=M) (by rw [show List.replicate (l.length+2) (Value.string M)=List.replicate l.length (.string M)++[.string M,.string M] by rw [show ([.string M,.string M]:List ag)=List.replicate 2 (.string M) from rfl,IM]];exact bO) ai;have bF:∀u∈([.string M,.string M]:List ag),u=.string M:=by
     intro u J
     simpa using J
    have dd:w5.heap.size<=Y.heap.size:=Nat.le_trans aI.size aM.size
    have bB:=(bA.frame (fun g cs f I=>aI.block g (lt_of_some I))).app aM bF bI;clear D bO aM cp bI aI bs bj bn bv bf bF bA;have bt:=bT.alloc (xu M);have bk:=j9 (B:=Y.heap.size) (cs:=#[.string M,.string M,.string M]) (t:=9) (fr:=(0,0)) (aL.new Y #[.string M,.string M,.string M] 9);have bo:=(show ∀u∈([.string M,.string M,.string M]:List ag),u.oneCell'=true from by
     intro u J;simp at J;subst J
     rfl)
    have bw:=show l.length+3<=maxLen from by unfold maxLen;omega
    have bg:=show lim<=(Y.alloc (xu M)).heap.size from aS
    go_wp2_with (at_builtin;go_must (refine iy _ rfl _ _ 22 rfl lim 9 i0 _ 16 underlying22 a6 a8 a9 ba rfl (.slice U l.length R) l.length (List.replicate l.length (.string M)) rfl bt ⟨Y.heap.size,0,none⟩ 3 3 [.string M,.string M,.string M] rfl rfl bk bo ax bw (show (l.length+3)*16<=140737488355328 from ai) bg (Y.heap.size+1) (show (Y.alloc (xu M)).heap.size=Y.heap.size+1 from ar) ?Zl))
    case Zl=>
     intro aj af Z bP av cq di cW bb;have am:=(az Y.heap.size Y).alloc aH (xu M);have aT:=(cm.trans (.of_below am)).trans (dE av (fun k V=>V));have D:=cf.below am;have aQ:=show aL Z b _ 31 from (av.block b D.lt (own_ne (bT.alloc (xu M)) D ax)).trans D
     have cj:=eE.of_own (n:=l.length+3) (t:=M) (by rw [show List.replicate (l.length+3) (Value.string M)=List.replicate l.length (.string M)++[.string M,.string M,.string M] by rw [show ([.string M,.string M,.string M]:List ag)=List.replicate 3 (.string M) from rfl,IM]];exact bP) ai;have a7:∀u∈([.string M,.string M,.string M]:List ag),u=.string M:=by
      intro u J
      simpa using J
     have de:Y.heap.size<=Z.heap.size:=Nat.le_trans am.size av.size
     have ch:=(bB.frame (fun g cs f I=>am.block g (lt_of_some I))).app av a7 bb;have ci:=(bC.frame (fun g cs f I=>am.block g (lt_of_some I))).app av a7 bb;have cg:=eE.of_own cW ai;obtain ⟨cS,cT,cU⟩:=three aQ;have cV:=aQ.fz;have c5:=aQ.lt;have aP:=(KL h.ls aT aF ax).alloc (.cells #[.slice U l.length R,.slice (some ⟨g5,0,none⟩) (l.length+1) be,.slice (some ⟨ah,0,none⟩) (l.length+2) ad,.slice (some ⟨aj,0,none⟩) (l.length+3) af] 22);clear D bP av cq bb am bt bk bo bw bg a7 bC bB;have bp:=(show ∀u∈([.slice U l.length R,.slice (some ⟨g5,0,none⟩) (l.length+1) be,.slice (some ⟨ah,0,none⟩) (l.length+2) ad,.slice (some ⟨aj,0,none⟩) (l.length+3) af]:List ag),u.oneCell'=true from by
      intro u J;simp only [cG,iT,jG] at J
      rcases J with rfl|rfl|rfl|rfl<;>rfl)
     have bx:=show A.length+4<=maxLen from by unfold maxLen;omega
     have bh:=show base<=(Z.alloc (.cells #[.slice U l.length R,.slice (some ⟨g5,0,none⟩) (l.length+1) be,.slice (some ⟨ah,0,none⟩) (l.length+2) ad,.slice (some ⟨aj,0,none⟩) (l.length+3) af] 22)).heap.size from aS
     go_wp2_with (at_builtin;go_must (refine wpList_append_own_wide _ rfl _ _ 28 rfl base 22 cL _ 1 24 underlying28 cu cI cJ cK rfl ax (.slice bJ A.length bL) A.length (A.map Prod.fst) rfl aP ⟨Z.heap.size,0,none⟩ 4 4 [.slice U l.length R,.slice (some ⟨g5,0,none⟩) (l.length+1) be,.slice (some ⟨ah,0,none⟩) (l.length+2) ad,.slice (some ⟨aj,0,none⟩) (l.length+3) af] rfl rfl (j9 (B:=Z.heap.size) (cs:=#[.slice U l.length R,.slice (some ⟨g5,0,none⟩) (l.length+1) be,.slice (some ⟨ah,0,none⟩) (l.length+2) ad,.slice (some ⟨aj,0,none⟩) (l.length+3) af]) (t:=22) (fr:=(0,0)) (aL.new Z #[.slice U l.length R,.slice (some ⟨g5,0,none⟩) (l.length+1) be,.slice (some ⟨ah,0,none⟩) (l.length+2) ad,.slice (some ⟨aj,0,none⟩) (l.length+3) af] 22)) bp bx (show ((A.length+4)+(A.length+4) / 4+192)*24<=281474976710656 from ai) bh ?Zm))
     case Zm=>
      intro dk Q bQ aN _;obtain ⟨ab,ac,rfl⟩:=aw bQ;have a4:=(az Z.heap.size Z).alloc aH (.cells #[.slice U l.length R,.slice (some ⟨g5,0,none⟩) (l.length+1) be,.slice (some ⟨ah,0,none⟩) (l.length+2) ad,.slice (some ⟨aj,0,none⟩) (l.length+3) af] 22);have D:=aQ.below a4;have aG:aL Q b _ 31:=(aN.block b D.lt (own_ne aP D ax)).trans D;have bz:Q.ownsRow base 3 1 (.slice a1 A.length a2) A.length (A.map fun m=> .int .i64 m.2):=ay ((KL h.ks aT aF ax).alloc (.cells #[.slice U l.length R,.slice (some ⟨g5,0,none⟩) (l.length+1) be,.slice (some ⟨ah,0,none⟩) (l.length+2) ad,.slice (some ⟨aj,0,none⟩) (l.length+3) af] 22)) (fun g cs f _ I=>aN.block g (lt_of_some I) (dV aP I ax));obtain ⟨cX,cY,cZ⟩:=three aG;have c3:=aG.fz;have b0:=bU bz aG ax 1 (.slice ab (A.length+4) ac);have da:Z.heap.size+1<=Q.heap.size:=by have:=aN.size;simp at this;exact this
      clear D bz cS cT cU cV bp bx bh;have a3:=b0.alloc (Cw A.length);have b7:=j9 (B:=Q.heap.size) (cs:=#[.int .i64 A.length,.int .i64 A.length,.int .i64 A.length,.int .i64 A.length]) (t:=3) (fr:=(0,0)) (aL.new' (Q.setCell ⟨b,1,none⟩ (.slice ab (A.length+4) ac)) #[.int .i64 A.length,.int .i64 A.length,.int .i64 A.length,.int .i64 A.length] 3 Q.heap.size Ob);have b8:=(show ∀u∈([.int .i64 A.length,.int .i64 A.length,.int .i64 A.length,.int .i64 A.length]:List ag),u.oneCell'=true from by
       intro u J;simp at J;subst J
       rfl)
      have cd:=show A.length+4<=maxLen from by unfold maxLen;omega
      have bW:=show base<=((Q.setCell ⟨b,1,none⟩ (.slice ab (A.length+4) ac)).alloc (Cw A.length)).heap.size from aS
      go_wp2_with (at_builtin;go_must (refine l9 _ rfl _ _ 29 rfl base 3 cM _ 1 8 underlying29 cw cE cF cH rfl ax (.slice a1 A.length a2) A.length (A.map fun m=> .int .i64 m.2) rfl a3 ⟨Q.heap.size,0,none⟩ 4 4 [.int .i64 A.length,.int .i64 A.length,.int .i64 A.length,.int .i64 A.length] rfl rfl b7 b8 ax cd (show (A.length+4)*8<=140737488355328 from ai) bW (Q.heap.size+1) (show ((Q.setCell ⟨b,1,none⟩ (.slice ab (A.length+4) ac)).alloc (Cw A.length)).heap.size=Q.heap.size+1 from ar) ?Zn))
      case Zn=>
       intro au an aO bR aX cr dj;have aV:=(az _ (Q.setCell ⟨b,1,none⟩ (.slice ab (A.length+4) ac))).alloc aH (Cw A.length);have D:=(aG.set 1 (.slice ab (A.length+4) ac)).below aV;have ak:aL aO b #[.slice cQ us.length cR,.slice ab (A.length+4) ac,.slice a1 A.length a2] 31:=(aX.block b D.lt (own_ne a3 D ax)).trans D;obtain ⟨dl,dm,dn⟩:=three ak;have dp:=ak.fz;have fr:∀(g:Nat)(cs:Array ag)(T:TypeId)(f:Nat×Nat),Q.heap[g]? =some (Obj.cells cs T f)->T≠31->T≠3->(aO.setCell ⟨b,2,none⟩ (.slice (some ⟨au,0,none⟩) (A.length+4) an)).heap[g]? =Q.heap[g]? :=fun g cs T f I t1 t2=>by
        have e1:(Q.setCell ⟨b,1,none⟩ (.slice ab (A.length+4) ac)).heap[g]? =Q.heap[g]? :=ea _ _ _ _ (fun (e:g=b)=>by
         have:=aG;subst e;unfold aL at this;rw [this] at I
         cases I
         exact t1 rfl)
        have ap:=(aV.block g (by rw [show (Q.setCell ⟨b,1,none⟩ (.slice ab (A.length+4) ac)).heap.size=Q.heap.size by simp];exact lt_of_some I)).trans e1;have a5:=(aX.block g (lt_of_some (ap.trans I)) (dV a3 (ap.trans I) t2)).trans ap;exact (ea _ _ _ _ (fun (e:g=b)=>by
         subst e;unfold aL at ak;rw [ak,I] at a5
         cases a5
         exact t1 rfl)).trans a5
       have aJ:∀(g:Nat)(cs:Array ag)(f:Nat×Nat),Z.heap[g]? =some (Obj.cells cs 9 f)->(aO.setCell ⟨b,2,none⟩ (.slice (some ⟨au,0,none⟩) (A.length+4) an)).heap[g]? =Z.heap[g]? :=fun g cs f I=>by
        have e1:=a4.block g (lt_of_some I);have ap:=(aN.block g (lt_of_some (e1.trans I)) (dV aP (e1.trans I) ax)).trans e1;exact (fr g cs _ f (ap.trans I) ax ax).trans ap
       have b2:=show (aO.setCell ⟨b,2,none⟩ (.slice (some ⟨au,0,none⟩) (A.length+4) an)).ownsRow base 22 1 (.slice ab (A.length+4) ac) (A.length+4) _ from ay bQ (fun g cs f _ I=>fr g cs _ f I ax ax)
       have bZ:=bU bR ak ax 2 (.slice (some ⟨au,0,none⟩) (A.length+4) an);have bY:=ak.set 2 (.slice (some ⟨au,0,none⟩) (A.length+4) an);have b3:=cg.frame aJ;have b4:=ch.frame aJ;have b5:=ci.frame aJ;have b6:=cj.frame aJ;have ct:bK (OS b (.slice bJ A.length bL) (.slice a1 A.length a2) (.slice U l.length R)) w (aO.setCell ⟨b,2,none⟩ (.slice (some ⟨au,0,none⟩) (A.length+4) an)):=
        (((((aT.mono (fun k e=> .inr (.inr (.inr e)))).trans (.of_below a4)).trans (dE aN (fun k V=> .inr (.inl V)))).set (a:=⟨b,1,none⟩) (.inl rfl) _).trans (.of_below aV)).trans (dE aX (fun k V=> .inr (.inr (.inl V)))) |>.set (a:=⟨b,2,none⟩) (.inl rfl) _
       clear bR aX aV D ak fr aJ cX cY cZ c3;go_wp2;go_end0;refine ⟨rfl,_,_,M0 h cz cB aF cC cA ct bY b2 bZ ?_ ?_ ?_ ?_ ?_⟩
       ·intro k V;simp only [Value.ownBlock,aR] at V;subst V
        rcases aE cr with e|e
        ·exact .inl e
        right;have h1:=aT.size;omega
       ·rw [aZ];exact b3
       ·rw [aZ];exact b4
       ·rw [aZ];exact b5
       rw [aZ];exact b6
end
def aa4 (h:aD:=by
 rw [et,aI hit];rfl):aD:=h
def eE.form{t}(h:eE w v t):∃a n c,v=aA a n c/\n<=1000/\∀k,k<n->∃g,a=some (aP g)/\w.cell? (aC g k)=some (an t):=by
 rcases h with rfl|⟨g,n,c,cs,f,rfl,h2,C,D⟩
 ·exact ⟨none,0,0,rfl,ai,fun k A=>ai⟩
 exact ⟨_,n,c,rfl,C,fun k A=>⟨g,rfl,by simp [World.cell?,h2,D k A]⟩⟩
def M1{A}(h:WS base w b lv hV gT us A)(ay:A.length<=8796093022208)(aj:nV w)(h2:2<w.heap.size):
  Calls prog 48 #[bu b] w fun e w'=>e=bi (.bool true)/\am w w':=by
 obtain ⟨aG,aH,rfl⟩:=aw h.ls;obtain ⟨aE,aF,rfl⟩:=aw h.ks;obtain ⟨aJ,aL,rfl⟩:=aw h.l;go_enter func48,ntmps48;go_wp2_with fail
 go_loopw [3] (fun u wr=>∃i:Nat,i<=A.length/\u=au i/\am w wr) (fun u _=>A.length-(intOf u).toNat)
 ·exact ⟨0,ai,rfl,az _ _⟩
 ·obtain ⟨i,hi,rfl,I⟩:=hrel;obtain ⟨Q,Z⟩:∃Q,Q=wr:=⟨_,rfl⟩;subst Z;have D:=h.below I;obtain ⟨c0,c1,c2⟩:=three D.blk
  by_cases hit:i<A.length
  ·have ae:(i:Int)<(A.length:Int):=by omega
   obtain ⟨Y,d1,e1,k1⟩:=aY D.ls i _ aa4;obtain ⟨av,d2,R,al⟩:=aY D.ks i _ aa4;simp only [aK,bX] at e1 R;obtain ⟨rfl,rfl⟩:=e1;obtain ⟨rfl,rfl⟩:=R;have U:=D.mrk _ (br hit);have ah:=D.mks _ (br hit);generalize A[i]=m at*;obtain ⟨mv,K⟩:=m;simp only at k1 al U ah;obtain ⟨an,n,ap,rfl,hn,ad⟩:=U.form;have C:=Es K Q ai (aj.below I h2);have V:=k1;generalize nW K=M at*;go_wp2_with fail;refine C.mono ?_;rintro e w1 ⟨rfl,ac⟩;go_wp2_with fail
   go_loopw [5] (fun u ar=>∃k:Nat,k<=n/\u=au k/\am Q ar) (fun u _=>n-(intOf u).toNat)
   ·exact ⟨0,ai,rfl,ac⟩
   obtain ⟨k,ax,rfl,J⟩:=hrel;have ab:=D.below J;obtain ⟨c0,c1,c2⟩:=three ab.blk;have k1:wr.cell? (aC Y i)=some (aA an n ap):=ak V J
   by_cases ag:k<n
   ·have af:(k:Int)<(n:Int):=by omega
    obtain ⟨g,rfl,k3⟩:=ad k ag;have aB:=ak k3 J;go_wp2;go_roundw
    ·exact ⟨k+1,ai,by go_num,J⟩
    simp [intOf];omega
   have af:¬((k:Int)<(n:Int)):=ai;go_wp2;go_roundw
   ·exact ⟨i+1,ai,by go_num,I.trans (J.mono I.size)⟩
   simp [intOf];omega
  have ae:¬((i:Int)<(A.length:Int)):=ai;go_wp2;go_ret;exact ⟨rfl,I⟩
def eZ(base b:Nat)(A n:Nat)(w:af)(e:Ending)(w':af):Prop:=e=bi (.bool true)/\∃lv hV gT us h,WS base w' b lv hV gT us h/\Below base w w'/\h.length<=n+4/\1<=us.length/\us.length<=A+1
def Fi{Q:List (ag×Nat)}(h:WS base w b lv hV gT us Q)(ac:u∈us)(ee:Int)(s rr ww:ae)(kd:Int)(aK:kd=6)(aN:Q.length+4<=8796093022208)(aP:nV w)(h2:2<w.heap.size):
  Calls prog 47 #[bu b,.agg #[bu u.x,bu u.y],.agg #[au kd,au ee,an s,an rr,an ww]] w (eZ base b us.length Q.length w):=by
 subst aK;have D:am w ((w.alloc (gt u.x u.y)).alloc (.cells #[au 6,au ee,an s,an rr,an ww] 34)):=((az _ w).alloc aH _).alloc ar _;have aI:base<=w.heap.size:=by have:=h.low;have:=h.blk.lt;omega
 have aQ:1<=us.length:=List.length_pos_of_mem ac;obtain ⟨W,V⟩:∃W,((w.alloc (gt u.x u.y)).alloc (.cells #[au 6,au ee,an s,an rr,an ww] 34))=W:=⟨_,rfl⟩;have al:=(aL.new w #[bu u.x,bu u.y] 86).alloc (.cells #[au 6,au ee,an s,an rr,an ww] 34);have av:=aL.new' (w.alloc (gt u.x u.y)) #[au 6,au ee,an s,an rr,an ww] 34 (w.heap.size+1) ar;rw [V] at D al av;have A:=h.below D;have I:=A.ur u ac;obtain ⟨e1,ax⟩:=ue I.both;have U:=E9 u.x W _ _ _ _ I.up.p ax;rw [e1] at U;have hl:(jq u.ss).length<=24:=by rw [oO];exact I.ud.most
 have ak:=fun w' (k:am W w')=>E7 u.y w' _ _ _ (I.ud.d.below k)
 generalize jq u.ss=L at*;have aG:=aj V;have aC:=D.size;have hbase:base<=W.heap.size:=by have:=A.low;have:=A.blk.lt;omega
 clear h I ac e1 ax av V;go_enter func47,ntmps47;go_wp2_with fail;rw [aG.u];refine U.mono ?_;rintro e w1 ⟨v1,rfl,J,aA⟩;obtain ⟨a1,c1,rfl⟩:=aw aA;have ad:=ak w1 J;obtain ⟨aR,p1⟩:=gh (al.below J);clear U ak;go_wp2_with fail;refine ad.mono ?_;rintro e aS ⟨aY,rfl,Y,ab⟩;obtain ⟨aU,c2,rfl⟩:=aw ab;have R:=J.trans (Y.mono J.size);have ap:=aB aA Y;have af:=Fa _ _ _ _ L aS ap ab ai;clear Y ab ad aR p1;go_wp2_with fail;refine af.mono ?_;rintro e aZ ⟨rfl,Z⟩;have C:=R.trans (Z.mono R.size);have ah:=KM (A.below C) hbase C.size L (aB ap Z) ai (fun m aO=>(A.mrk m aO).lim.below C) (fun k aJ=>(A.ls.lt k aJ).2) aN (aP.below (D.trans (C.mono aC)) h2);clear Z af R J;go_wp2_with fail;refine ah.mono ?_;rintro e aT ⟨rfl,aW,aV,aX,aE,ay,aM⟩;have aF:=show eZ base b us.length Q.length w (bi (.bool true)) aT from ⟨rfl,_,_,_,_,_,aE,((D.trans (C.mono aC)).mono aI).trans ay,ai,aQ,ai⟩
 clear aE ay aM ah;go_wp2;go_ret;exact aF
def Tryz.infoPr:(Tryz.prog.info? 86).map (fun i=>(i.zero,i.size,i.bytes))=some (some (.agg #[.pointer none,.pointer none]),2,16):=by kernel_rfl
variable {g5 be:Nat} {w5:af} {o:Obj}
def WS.push{ms}(h:WS base w b lv hV gT us ms)(V:am w W)(al:UR W u)(ab:∀k,US u k->w.heap.size<=k)(ad:∀k,u.I k->w.heap.size<=k)(D:(W.alloc o).grownBy w5 lv.ownBlock)(aj:w5.ownsRow base 86 2 (aA (some (aP g5)) (us.length+1) be) (us.length+1) (us.flatMap Wc++Wc u)):
  WS base (w5.setCell (aP b) (aA (some (aP g5)) (us.length+1) be)) b (aA (some (aP g5)) (us.length+1) be) hV gT (us++[u]) ms/\Below base w (w5.setCell (aP b) (aA (some (aP g5)) (us.length+1) be)):=by
 have b1:=V.alloc V.size o;have h1:=h.below b1;have an:UR (W.alloc o) u:=al.below (bo.alloc aH o);have R:base<=w.heap.size:=by have:=h.low;have:=h.blk.lt;omega
 have U:aL w5 b #[lv,hV,gT] 31:=(D.block b h1.blk.lt (own_ne h1.l h1.blk ax)).trans h1.blk;obtain ⟨F,hF⟩:∃F,w5.setCell (aP b) (aA (some (aP g5)) (us.length+1) be)=F:=⟨_,rfl⟩;have Q:bK (fun k=>k=b\/lv.ownBlock=some k) (W.alloc o) F:=by rw [<-hF];exact (dE D (fun k C=> .inr C)).set (a:=⟨b,0,none⟩) (.inl rfl) _
 have ty:∀(g:Nat)(cs:Array ag)(T:TypeId)(f:Nat×Nat),(g=b\/lv.ownBlock=some g)->(W.alloc o).heap[g]? =some (Obj.cells cs T f)->T=31\/T=86:=fun g cs T f hs A=>by
  rcases hs with rfl|e
  ·have:=h1.blk;unfold aL at this;rw [this] at A
   cases A
   exact .inl rfl
  obtain ⟨au,J⟩:=nR h1.l e;unfold aL at J;rw [J] at A
  cases A
  exact .inr rfl
 have keep:∀(v:ez),UR (W.alloc o) v->UR F v:=fun v hv=>hv.keep Q (fun g D hs=>by
   obtain ⟨cs,T,J,af⟩:=hv.ty D;have:=ty g cs T _ hs J
   rcases af with rfl|rfl|rfl|rfl<;>simp at this)
  (fun g cs T f hs A ak=>by
   rcases ty g cs T f hs A with rfl|rfl<;>exact absurd ak KK)
 have key:∀(g:Nat)(cs:Array ag)(T:TypeId)(f:Nat×Nat),(W.alloc o).heap[g]? =some (Obj.cells cs T f)->T≠31->T≠86->F.heap[g]? =(W.alloc o).heap[g]? :=fun g cs T f A t1 t2=>Q.block g (lt_of_some A) (fun hs=>by
  rcases ty g cs T f hs A with e|e
  ·exact t1 e
  exact t2 e)
 have Z:=bU aj U ax 0 (aA (some (aP g5)) (us.length+1) be);have Y:=U.set 0 (aA (some (aP g5)) (us.length+1) be);rw [hF] at Z Y ⊢;refine ⟨⟨Y,h.low,by simpa using Z,ay h1.ls (fun g cs f _ A=>key g cs _ f A ax ax),ay h1.ks (fun g cs f _ A=>key g cs _ f A ax ax),fun v hv=> ?_,fun v hv=> ?_,?_,fun v hv=> ?_,fun m ai=>(h1.mrk m ai).frame (fun g cs f A=>key g cs _ f A ax ax),h.mks⟩,?_⟩
 ·rcases aW.1 hv with hv|hv
  ·exact keep v (h1.ur v hv)
  rw [aX] at hv;subst hv;exact keep v an
 ·rcases aW.1 hv with hv|hv
  ·exact h.lowu v hv
  rw [aX] at hv;subst hv;exact fun k C=>aV R (ab k C)
 ·refine BO.2 ⟨h.ap,ar,fun v hv q ac k C ah=> ?_⟩;rw [aX] at ac;subst ac;have h1:=(h.ur v hv).lt C;have h2:=ab k ah;omega
 ·rcases aW.1 hv with hv|hv
  ·exact h.apk v hv
  rw [aX] at hv;subst hv;intro k C ae;have h1:=(h.ks.lt k C).2;have h2:=ad k ae;omega
 ·exact (b1.mono R).trans (Q.below (aV R b1.size) (fun g D=>by
   rcases D with rfl|e
   ·exact h.low
   exact (h.l.lt g e).1))
def Sx(base b:Nat)(n m:Nat)(r:Bool)(w:af)(e:Ending)(w':af):Prop:=e=bi (.bool true)/\∃lv hV gT us h,WS base w' b lv hV gT us h/\Below base w w'/\h.length=m/\us.length=if r then n+1 else n
def IP{ms}(h:WS base w b lv hV gT us ms)(s)(V:Laid w)(o c)(A:dy s=.error (o,c)):
  Calls prog 44 #[.pointer (some ⟨b,0,none⟩),.string s] w (Sx base b us.length ms.length false w):=by
 have hc:=(oN A w).1;have I:=aj (Se s w o c A hc V);have Q:=aj (fun w'=>QE s w' c _ hc (oN A w').2.choose_spec);have H:=aj h;have Z:((c:Int) != 0)=true:=gX.2 ai;have ab:((c:Int)==0)=false:=by rw [bR];omega
 have Y:base<=w.heap.size:=by have:=h.low;have:=h.blk.lt;omega
 clear h A V;go_enter func44,ntmps44;go_wp2_with fail;refine I.u.mono ?_;rintro e w1 ⟨rfl,R⟩;have C:=aj R;have J:=aj (Q.u w1);clear R I Q;go_wp2_with fail;refine J.u.mono ?_;rintro e ac ⟨rfl,U⟩;have D:=aj (C.u.trans (U.mono C.u.size));clear U J;go_wp2;go_ret;exact ⟨rfl,_,_,_,_,_,H.u.below D.u,D.u.mono Y,rfl,rfl⟩
def Ah{ms}(h:WS base w b lv hV gT us ms)(s)(aB:Laid w)(ts)(ac:dy s=.ok ts)(aX:us.length+1<=8796093022208):
  Calls prog 44 #[bu b,an s] w (Sx base b us.length ms.length true w):=by
 obtain ⟨i0,aC,aM,aN,aO⟩:=eN Tryz.infoPr;obtain ⟨aP,aQ,rfl⟩:=aw h.l;have af:=Wb Y2 QC wF s w ts ac aB;have ai:=fun w'=>VR s w' (XS ts (fun k=>w'.heap.size<=k)) (fun bm w w' h k=>h.kd k) (Af ac w')
 have aU:base<=w.heap.size:=by have:=h.low;have:=h.blk.lt;omega
 go_enter func44,ntmps44;go_wp2_with fail;refine af.mono ?_;rintro e w1 ⟨mv,Q,bm,tl,x,rfl,aG,aE,aI,J,aH⟩;have ah:=ai w1;have ad:=J.size;have av:=(⟨aG,⟨bm,tl,aE⟩,aI⟩:N4 w1 x mv Q (aA none 0 0) ts []);go_wp2_with fail;refine ah.mono ?_;rintro e A ⟨Y,y,rfl,az,aJ,Z,aK⟩;have I:=J.trans (Z.mono J.size);have ay:=(⟨av.keep (S:=fun _=>False) (.of_below Z) (fun _ _ e=>e) (fun _ _ _ _ e=>e.elim),⟨az,aJ.fin,fun k D=>D.2,ar⟩,Fe,fun _ h=>by cases h⟩:UR A ⟨x,y,Y,mv,Q,aA none 0 0,aA none 0 0,ts,[],[],fun k=>w1.heap.size<=k/\k<A.heap.size⟩);have C:=h.below I;obtain ⟨c0,c1,c2⟩:=three C.blk;have aT:=C.blk.lt;have U:=C.l.alloc (gt x y);have am:=j9 (B:=A.heap.size) (cs:=#[bu x,bu y]) (t:=86) (fr:=(0,0)) (aL.new A _ _);have ap:=(show ∀u∈([bu x,bu y]:List ag),u.oneCell'=true from by
  intro u ae;simp only [cG,iT,jG] at ae
  rcases ae with rfl|rfl<;>rfl)
 have au:=(by unfold maxLen;omega:us.length+1<=maxLen);have ak:=(by omega:(us.length+1)*16<=140737488355328);have aj:=(by have:=I.size;simp;omega:base<=(A.alloc (gt x y)).heap.size);have al:=(by simp:(A.alloc (gt x y)).heap.size=A.heap.size+1);go_wp2_with (at_builtin;go_must (refine l9 _ rfl _ _ 27 rfl base 86 i0 _ 2 16 underlying27 aC aM aN aO rfl ax (aA aP us.length aQ) us.length (us.flatMap Wc) rfl U ⟨A.heap.size,0,none⟩ 1 1 [bu x,bu y] rfl rfl am ap ax au ak aj (A.heap.size+1) al ?hrest))
 case hrest=>
  intro g5 be w5 aF ab aR aW;have V:aL w5 b _ 31:=(ab.block b aS (own_ne U (C.blk.alloc _) ax)).trans (C.blk.alloc _);obtain ⟨aY,aZ,a2⟩:=three V;have a3:=V.fz;have R:=(WS.push (u:=⟨x,y,Y,mv,Q,aA none 0 0,aA none 0 0,ts,[],[],fun k=>w1.heap.size<=k/\k<A.heap.size⟩) h I ay (fun k D=>by
   rcases D with (e|⟨n,c,e⟩)|(e|⟨n,c,e⟩)
   ·subst e;exact aH
   ·cases e
   ·subst e;exact aV ad aK
   cases e) (fun k D=>aV ad D.1) ab aF)
  go_wp2;go_ret;exact ⟨rfl,_,_,_,_,_,R.1,R.2,rfl,ar⟩
def jr(c:Int)(n:Nat):Nat:=(if c<0 then (-(c+1)).toNat else c.toNat) % n
def Fj(c)(h:0<n):jr c n<n:=Nat.mod_lt _ h
def Fk(c:Int)(n:Nat)(w)(h0: -9223372036854775808<=c)(h1:c<=9223372036854775807)(C:0<n)(D:n<=9223372036854775807):
  Calls prog 45 #[au c,au n] w fun e w'=>e=bi (au (jr c n))/\w'=w:=by
 unfold jr
 by_cases hc:c<0
 ·rw [if_pos hc];obtain ⟨m,A⟩:∃m:Nat,-(c+1)=m:=⟨(-(c+1)).toNat,ai⟩;rw [A,kk];go_enter func45,ntmps45;go_wp2;go_ret;exact ⟨rfl,rfl⟩
 ·rw [if_neg hc];obtain ⟨m,rfl⟩:∃m:Nat,c=m:=⟨c.toNat,ai⟩;rw [kk];go_enter func45,ntmps45;go_wp2;go_ret;exact ⟨rfl,rfl⟩
def Sy{ms}(h:WS base w b lv hV gT us ms)(af:1<=us.length)(ee s rr ww)(ae:us.length+1<=8796093022208)(Y:Laid w):
  Calls prog 15 #[bu b,.agg #[au 2,au ee,an s,an rr,an ww]] w (eZ base b us.length ms.length w):=by
 have D:=(az w.heap.size w).alloc aH (.cells #[au 2,au ee,an s,an rr,an ww] 34);have R:=h.below D;have Z:=Y.below D Y.lt;have C:Calls prog 44 #[bu b,an s] (w.alloc (.cells #[au 2,au ee,an s,an rr,an ww] 34)) fun e w'=>eZ base b us.length ms.length w e w':=by
  have U:base<=w.heap.size:=by have:=h.low;have:=h.blk.lt;omega
  cases ab:dy s with
  |error er=>
   obtain ⟨o,c⟩:=er;refine (IP R s Z o c ab).mono fun e w' ⟨I,lv,hV,gT,Q,J,h1,h2,ad,A⟩=>⟨I,lv,hV,gT,Q,J,h1,(D.mono U).trans h2,ai,by simp at A;omega,by simp at A;omega⟩
  |ok ts=>
   refine (Ah R s Z ts ab ae).mono fun e w' ⟨I,lv,hV,gT,Q,J,h1,h2,ad,A⟩=>⟨I,lv,hV,gT,Q,J,h1,(D.mono U).trans h2,ai,by simp at A;omega,by simp at A;omega⟩
 go_enter func15,ntmps15;go_wp2_with fail;refine C.mono ?_;rintro e ag V;have ac:=V;obtain ⟨rfl,_⟩:=V;go_wp2;go_ret;exact ac
def od{ms}(h:WS base w b lv hV gT us ms)(V:1<=us.length)(kd ee s rr ww)(I:kd=3\/kd=4\/kd=5)(hs:s.size<=maxLen)(aj: -9223372036854775808<=ee)(al:ee<=9223372036854775807)(aM:us.length+1<=8796093022208)(J:Laid w)(U:ko w)(h1:1<w.heap.size):
  Calls prog 15 #[bu b,.agg #[au kd,au ee,an s,an rr,an ww]] w (eZ base b us.length ms.length w):=by
 obtain ⟨aN,ax,rfl⟩:=aw h.l;have R:jr ee us.length<us.length:=Fj ee V;obtain ⟨g,c,e1,hc⟩:=bn Wc 2 (fun _=>rfl) h.l (jr ee us.length) us[jr ee us.length] (aI R);simp only [aK,bX] at e1;obtain ⟨rfl,rfl⟩:=e1;have hi:us[jr ee us.length]? =some us[jr ee us.length]:=aI R;generalize us[jr ee us.length]=u at*;have Z:=fun w'=>Fk ee us.length w' aj al ai ai
 generalize jr ee us.length=i at*;have D:=(az w.heap.size w).alloc aH (mM kd ee s rr ww);have A:=aL.new w #[au kd,au ee,an s,an rr,an ww] 34;have aB:=ak (show w.cell? (aC g (i*2))=some (bu u.x) from hc 0 _ ai rfl) D;have aE:=ak (show w.cell? (aC g (i*2+1))=some (bu u.y) from hc 1 _ ai rfl) D;have ab:=ak (three h.blk).1 D;have af:base<=w.heap.size:=by have:=h.low;have:=h.blk.lt;omega
 have C:=(fun W' (k:am w W')=>(Fh (h.below k) hi kd ee s rr ww hs (J.below k J.lt) (U.below k ai) (by have:=k.size;omega)).mono (fun e w' ⟨ah,ag⟩=>show eZ base b us.length ms.length w e w' from by
  obtain ⟨⟨u',av⟩,ae⟩:=ag;exact ⟨ah,_,_,_,_,_,av,(k.mono af).trans ae,ai,by simpa using V,ar⟩))
 clear h hc hi J U;have aQ:(kd==1)=false:=by rcases I with rfl|rfl|rfl<;>rfl
 have aR:(kd==2)=false:=by rcases I with rfl|rfl|rfl<;>rfl
 have ap:((kd==3)=true)\/((kd==3)=false/\(kd==4)=true)\/((kd==3)=false/\(kd==4)=false/\(kd==5)=true):=by rcases I with rfl|rfl|rfl<;>decide
 clear I
 rcases ap with Y|⟨Y,ay⟩|⟨Y,ay,aO⟩
 all_goals
  go_enter func15,ntmps15;go_wp2_with fail;generalize ad:w.alloc (mM kd ee s rr ww)=W at*;have aJ:=A.lt;clear ad;have aT:W.cell? (aC w.heap.size 1)=some (au ee):=A.cell rfl;obtain ⟨aS,aU,aV,aW⟩:W.cell? (aP w.heap.size)=some (au kd)/\W.cell? (aC w.heap.size 2)=some (an s)/\W.cell? (aC w.heap.size 3)=some (an rr)/\W.cell? (aC w.heap.size 4)=some (an ww):=⟨A.cell rfl,A.cell rfl,A.cell rfl,A.cell rfl⟩;have aF:=ab;have aG:(i:Int)<(us.length:Int):=ai
  go_region_held3 (fun w'=>w'.cell? (aP b)=some (aA (some (aP g)) us.length ax)/\w'.cell? (aC w.heap.size 1)=some (au ee)/\w'.cell? (aC g (i*2))=some (bu u.x)/\w'.cell? (aC g (i*2+1))=some (bu u.y)) (go_keep)
   ((go_at_call 45;refine (Z _).mono ?_;rintro e w' ⟨rfl,rfl⟩))
  all_goals
   go_wp2_with fail;refine (C _ ((D.alloc D.size _).drew)).mono ?_;rintro e aX Q;have ac:=Q;obtain ⟨rfl,_⟩:=Q;clear C;go_wp2;go_ret;exact ac
structure St where
 kd:Int
 ee:Int
 s:ae
 rr:ae
 ww:ae
structure IQ(x:St):Prop where
 e0: -9223372036854775808<=x.ee
 e1:x.ee<=9223372036854775807
 s:x.s.size<=maxLen
 r:x.rr.size<=maxLen
 w:x.ww.size<=maxLen
structure Env(w:af):Prop where
 laid:Laid w
 max:ko w
 pow:nV w
 lt:4<w.heap.size
variable {B:Nat}
def Env.below(h:Env w)(k:Below B w w')(A:4<B):Env w':=⟨h.laid.below k ai,h.max.below k ai,h.pow.below k ai,by have:=k.size;have:=h.lt;omega⟩
def X8(ks:List Int):Prop:=∀(base b:Nat) (lv hV gT:ag) (us:List ez) (h:List (ag×Nat)) (w:af) (x:St),WS base w b lv hV gT us h->1<=us.length->us.length+1<=8796093022208->h.length+4<=8796093022208->ks.any (fun k=>x.kd==k)=true->IQ x->Env w->4<base->
 Calls prog 15 #[bu b,.agg #[au x.kd,au x.ee,an x.s,an x.rr,an x.ww]] w (eZ base b us.length h.length w)
def M3(w:af)(v:ag)(n:Nat):Prop:=(v=aA none 0 0/\n=0)\/∃(h:Addr)(c:Nat)(z:Nat->St),v=aA (some h) n c/\n<=c/\∀j,j<n->IQ (z j)/\w.cell? (h.add (j*5))=some (au (z j).kd)/\w.cell? (aC ((h.add (j*5)).block) ((h.add (j*5)).off+1))=some (au (z j).ee)/\w.cell? (aC ((h.add (j*5)).block) ((h.add (j*5)).off+2))=some (an (z j).s)/\w.cell? (aC ((h.add (j*5)).block) ((h.add (j*5)).off+3))=some (an (z j).rr)/\w.cell? (aC ((h.add (j*5)).block) ((h.add (j*5)).off+4))=some (an (z j).ww)
variable {j:Nat}
def M3.cell{ad}(h:M3 w (aA (some ad) n c) n)(k:am w w')(I:j<n):∃x:St,IQ x/\w'.cell? (ad.add (j*5))=some (au x.kd)/\w'.cell? (aC ((ad.add (j*5)).block) ((ad.add (j*5)).off+1))=some (au x.ee)/\w'.cell? (aC ((ad.add (j*5)).block) ((ad.add (j*5)).off+2))=some (an x.s)/\w'.cell? (aC ((ad.add (j*5)).block) ((ad.add (j*5)).off+3))=some (an x.rr)/\w'.cell? (aC ((ad.add (j*5)).block) ((ad.add (j*5)).off+4))=some (an x.ww):=by
 rcases h with ⟨h,_⟩|⟨Q,R,z,e,_,J⟩
 ·cases h
 simp only [aK,aR,bX] at e;obtain ⟨rfl,rfl⟩:=e;obtain ⟨h0,h1,h2,A,C,D⟩:=J j I;exact ⟨z j,h0,ak h1 k,ak h2 k,ak A k,ak C k,ak D k⟩
def Fl:ae:=⟨#[116,121,112,101,32,117,115,101,114,32,123,32,125,32,116,121,112,101,32,103,114,111,117,112,32,123,32,109,101,109,98,101,114,58,32,91,117,115,101,114,44,32,103,114,111,117,112,35,109,101,109,98,101,114,93,59,32,125,32,116,121,112,101,32,100,111,99,32,123,32,112,97,114,101,110,116,58,32,91,100,111,99,93,59,32,111,119,110,101,114,58,32,91,117,115,101,114,93,59,32,98,97,110,110,101,100,58,32,91,117,115,101,114,44,32,117,115,101,114,42,93,59,32,101,100,105,116,111,114,58,32,91,117,115,101,114,44,32,103,114,111,117,112,35,109,101,109,98,101,114,93,32,124,32,111,119,110,101,114,32,124,32,112,97,114,101,110,116,46,101,100,105,116,111,114,59,32,118,105,101,119,101,114,58,32,40,91,117,115,101,114,42,93,32,124,32,101,100,105,116,111,114,41,32,45,32,98,97,110,110,101,100,59,32,125]⟩
def Wg:∃ts,dy Fl=.ok ts:=by
 have h:(match dy Fl with| .ok _=>true| .error _=>false)=true:=aM
 cases A:dy Fl with
 |ok ts=>exact ⟨ts,rfl⟩
 |error e=>rw [A] at h;cases h
def SA (h:aD:=by
 go_wp2_with fail
 go_region
 all_goals
  go_wp2_with fail;exact ⟨⟨k+1,ai,by go_num,by rw [HTK];simp,UL.drew⟩,by simp [intOf];omega⟩):aD:=h
def M4(ks)(a0:X8 ks)(v n w0 w)(h:M3 w0 v n)(bn:n<=2199023255488)(g c)(bk:ks.length<=100)(a9:∀k (a7:k<ks.length),w.cell? (aC g k)=some (au ks[k]))(Q:am w0 w)(D:Env w)(bj:4<w0.heap.size):
  Calls prog 16 #[v,aA (some (aP g)) ks.length c] w fun e w'=>e=bi (.bool true)/\am w0 w':=by
 have hv:∃a c,v=aA a n c/\(0<n->∃V,a=some V):=by
  rcases h with ⟨rfl,rfl⟩|⟨V,c,z,rfl,h1,_⟩
  ·exact ⟨_,_,rfl,ai⟩
  exact ⟨_,_,rfl,fun _=>⟨_,rfl⟩⟩
 obtain ⟨bw,rc,rfl,ba⟩:=hv;obtain ⟨ts,bb⟩:=Wg;have ah:=(az w.heap.size w).alloc aH (.cells #[aA none 0 0,aA none 0 0,aA none 0 0] 31);have aZ:WS w.heap.size (w.alloc (.cells #[aA none 0 0,aA none 0 0,aA none 0 0] 31)) w.heap.size (aA none 0 0) (aA none 0 0) (aA none 0 0) [] []:=⟨aL.new w _ _,bV _,bP,bP,bP,ar,ar,List.Pairwise.nil,ar,ar,ar⟩;have ae:=Ah aZ Fl (D.laid.below ah D.laid.lt) ts bb ar;have Y:=D.lt;have ay:=Q.size;unfold Fl at ae;go_enter func16,ntmps16;go_wp2_with fail;refine ae.mono ?_;rintro e w1 ⟨rfl,lv,hV,gT,us,A,J,a3,av,ax⟩;simp only [List.length_nil,if_true] at av ax;obtain ⟨bu,bv,rfl⟩:=aw J.l;obtain ⟨c0,c1,c2⟩:=three J.blk;have Z:us.length=1:=by simpa using ax
 rw [Z] at c0;have aM:=ah.trans a3;go_wp2_with fail
 go_loopw [7] (fun u wr=>∃(i:Nat) (lv hV gT:ag) (us:List ez) (A:List (ag×Nat)),i<=n/\u=au i/\am w wr/\WS w.heap.size wr w.heap.size lv hV gT us A/\(1<=us.length/\us.length<=i+1/\A.length<=4*i)) (fun u _=>n-(intOf u).toNat)
 ·exact ⟨0,_,_,_,us,A,ai,rfl,aM,J,aj ⟨by rw [Z];omega,by rw [Z];omega,by rw [av];omega⟩⟩
 ·obtain ⟨i,lv,hV,gT,us,A,hi,rfl,I,J,C⟩:=hrel;obtain ⟨U,a1⟩:∃U,U=wr:=⟨_,rfl⟩;subst a1
  by_cases a6:i<n
  ·have a5:(i:Int)<(n:Int):=by omega
   obtain ⟨V,rfl⟩:=ba ai;have aR:=Q.trans (I.mono ay);obtain ⟨x,bf,ad,aG,aI,aJ,aK⟩:=h.cell aR a6;have af:=ad;have aV:=aG;have aW:=aI;have aX:=aJ;have aY:=aK;go_wp2_with fail
   go_loopw [8,9] (fun u8 ab bh=>∃k:Nat,k<=ks.length/\ab=au k/\u8=.bool ((ks.take k).any fun q=>x.kd==q)/\am U bh) (fun _ ab _=>ks.length-(intOf ab).toNat)
   ·exact ⟨0,ai,rfl,rfl,az _ _⟩
   obtain ⟨k,a7,rfl,rfl,UL⟩:=hrel
   by_cases ap:k<ks.length
   ·have a8:(k:Int)<(ks.length:Int):=by omega
    have ad:=ak af UL;have bA:wr.cell? (aC g k)=some (au ks[k]):=ak (ak (a9 k ap) I) UL;have HTK:=(by rw [cD ap,List.any_append];simp:((ks.take (k+1)).any fun q=>x.kd==q)=(((ks.take k).any fun q=>x.kd==q)||(x.kd==ks[k])));generalize ((ks.take k).any fun q=>x.kd==q)=t0 at*;generalize ks[k]=bp at*
    cases t0
    ·exact SA
    exact SA
   have a8:¬((k:Int)<(ks.length:Int)):=ai;rw [cX ai];have ad:=ak af UL;have aG:=ak aV UL;have aI:=ak aW UL;have aJ:=ak aX UL;have aK:=ak aY UL;have R:=I.trans (UL.mono I.size);have al:=J.below UL
   cases a2:ks.any fun q=>x.kd==q
   ·have aT:=al;go_wp2;go_roundw
    ·exact ⟨i+1,_,_,_,us,A,ai,by go_num,R,aT,by
     obtain ⟨l1,l2,bg⟩:=aE C;exact aj ⟨l1,ai,ai⟩⟩
    simp [intOf];omega
   have aO:=a0 w.heap.size w.heap.size _ _ _ us A wr x al C.1 (by have:=C.2.1;omega) (by have:=C.2.2;omega) a2 bf (D.below R Y) Y;go_wp2_with fail;refine aO.mono ?_;rintro e bx ⟨rfl,bt,bs,br,ac,aF,aB,a4,bl,bc,bo⟩;have B2:=R.trans a4;have aQ:=M1 aB (by have:=C.2.2;omega) (D.below B2 Y).pow XE;have aS:=(show 1<=ac.length/\ac.length<=i+1+1/\aF.length<=4*(i+1) from by
    obtain ⟨l1,l2,bg⟩:=aE C;exact ⟨bc,ai,ai⟩)
   go_wp2_with fail;refine aQ.mono ?_;rintro e bz ⟨rfl,an⟩;have aN:=B2.trans (an.mono B2.size);have aU:=aB.below an;go_wp2;go_roundw
   ·exact ⟨i+1,_,_,_,ac,aF,ai,by go_num,aN,aU,aS⟩
   simp [intOf];omega
  have a5:¬((i:Int)<(n:Int)):=ai;go_wp2;go_ret;exact ⟨rfl,Q.trans (I.mono ay)⟩
def xw{ms}(h:WS base w b lv hV gT us ms)(al:1<=us.length)(kd ee s rr ww)(A:kd=6\/kd=7\/kd=8)(ag: -9223372036854775808<=ee)(ah:ee<=9223372036854775807)(aJ:us.length+1<=8796093022208)(J:∀W',am w W'->∀u∈us,Calls prog 47 #[bu b,.agg #[bu u.x,bu u.y],.agg #[au kd,au ee,an s,an rr,an ww]] W' (eZ base b us.length ms.length W')):
  Calls prog 15 #[bu b,.agg #[au kd,au ee,an s,an rr,an ww]] w (eZ base b us.length ms.length w):=by
 obtain ⟨aM,ap,rfl⟩:=aw h.l;have R:jr ee us.length<us.length:=Fj ee al;obtain ⟨g,c,e1,hc⟩:=bn Wc 2 (fun _=>rfl) h.l (jr ee us.length) us[jr ee us.length] (aI R);simp only [aK,bX] at e1;obtain ⟨rfl,rfl⟩:=e1;have hi:us[jr ee us.length]? =some us[jr ee us.length]:=aI R;generalize us[jr ee us.length]=u at*;have V:=fun w'=>Fk ee us.length w' ag ah ai ai
 generalize jr ee us.length=i at*;have I:=(az w.heap.size w).alloc aH (mM kd ee s rr ww);have D:=aL.new w #[au kd,au ee,an s,an rr,an ww] 34;have ay:=ak (show w.cell? (aC g (i*2))=some (bu u.x) from hc 0 _ ai rfl) I;have aB:=ak (show w.cell? (aC g (i*2+1))=some (bu u.y) from hc 1 _ ai rfl) I;have Y:=ak (three h.blk).1 I;have ae:base<=w.heap.size:=by have:=h.low;have:=h.blk.lt;omega
 have C:=fun W' (k:am w W')=>(J W' k u (bF hi)).mono (fun e w' ⟨af,lv,hV,gT,ax,av,h1,h2,ab,ac⟩=>show eZ base b us.length ms.length w e w' from ⟨af,lv,hV,gT,ax,av,h1,(k.mono ae).trans h2,ab,ac⟩)
 clear h hc hi J;have aS:(kd==1)=false:=by rcases A with rfl|rfl|rfl<;>rfl
 have aT:(kd==2)=false:=by rcases A with rfl|rfl|rfl<;>rfl
 have aN:(kd==3)=false:=by rcases A with rfl|rfl|rfl<;>rfl
 have aO:(kd==4)=false:=by rcases A with rfl|rfl|rfl<;>rfl
 have aQ:(kd==5)=false:=by rcases A with rfl|rfl|rfl<;>rfl
 have aj:((kd==6)=true)\/((kd==6)=false/\(kd==7)=true)\/((kd==6)=false/\(kd==7)=false/\(kd==8)=true):=by rcases A with rfl|rfl|rfl<;>decide
 clear A
 rcases aj with U|⟨U,ar⟩|⟨U,ar,aR⟩
 all_goals
  go_enter func15,ntmps15;go_wp2_with fail;generalize ad:w.alloc (mM kd ee s rr ww)=W at*;have aG:=D.lt;clear ad;have aV:W.cell? (aC w.heap.size 1)=some (au ee):=D.cell rfl;obtain ⟨aU,aW,aX,aY⟩:W.cell? (aP w.heap.size)=some (au kd)/\W.cell? (aC w.heap.size 2)=some (an s)/\W.cell? (aC w.heap.size 3)=some (an rr)/\W.cell? (aC w.heap.size 4)=some (an ww):=⟨D.cell rfl,D.cell rfl,D.cell rfl,D.cell rfl⟩;have aE:=Y;have aF:(i:Int)<(us.length:Int):=ai
  go_region_held3 (fun w'=>w'.cell? (aP b)=some (aA (some (aP g)) us.length ap)/\w'.cell? (aC w.heap.size 1)=some (au ee)/\w'.cell? (aC g (i*2))=some (bu u.x)/\w'.cell? (aC g (i*2+1))=some (bu u.y)) (go_keep)
   ((go_at_call 45;refine (V _).mono ?_;rintro e w' ⟨rfl,rfl⟩))
  all_goals
   go_wp2_with fail;refine (C _ ((I.alloc I.size _).drew)).mono ?_;rintro e aZ Q;have Z:=Q;obtain ⟨rfl,_⟩:=Q;clear C;go_wp2;go_ret;exact Z
end Go.Proofs.YtlbpnlngckgcbaaGreatDoor
namespace Go.Proofs.YtlbpnlngckgcbaaGreatDoor
open Go.ChangeShapes Go.WideShapes Go.RowKit Go.Proofs.Tryz
def Zo:Tryz.prog.cellsOf 3=1:=by kernel_rfl
def Zp:Tryz.prog.cellsOf 9=1:=by kernel_rfl
def Cx:Tryz.prog.cellsOf 34=5:=by kernel_rfl
def Wh:Tryz.prog.bytesOf 34=64:=by kernel_rfl
def Wi{n}(h:(Lit.int .i64 n).wf=true): -9223372036854775808<=n/\n<=9223372036854775807:=by
 simp only [Lit.wf,bO,fE] at h;have h1:IntKind.i64.min= -9223372036854775808:=ax;have h2:IntKind.i64.max=9223372036854775807:=ax;rw [h1,h2] at h;exact h
variable {H:Type} {W:World} {fuel:Nat}
def Wj{enc:TypeId×Value->H}{cs}{x:DataW H×List MemPlace}(h:DataW.trod enc Tryz.prog W 0 (fun _=>true) true fuel 34 cs=some x):
  ∃st:St,IQ st/\cs=[au st.kd,au st.ee,an st.s,an st.rr,an st.ww]/\x.2=[]:=by
 obtain ⟨xs,k,aj,ab,V,Z,A⟩:=DataW.trod_struct Tryz.underlying34 h;rw [Cx] at V
 match xs,Z,cs,V with
 | [y0,y1,y2,y3,y4],_,[v0,v1,v2,v3,v4],_=>
  have g0:=A 0 _ rfl;have C:=A 1 _ rfl;have D:=A 2 _ rfl;have I:=A 3 _ rfl;have J:=A 4 _ rfl;simp only [List.getElem_toArray,List.getElem_cons_zero,List.getElem_cons_succ] at g0 C D I J;simp only [Zo,Zp,nj,rT,List.take_succ_cons,List.take_zero,List.getElem?_cons_zero,List.getElem?_cons_succ] at g0 C D I J;obtain ⟨ac,e0,f0,ak⟩:=DataW.trod_int Tryz.underlying3 g0;obtain ⟨n1,e1,f1,af⟩:=DataW.trod_int Tryz.underlying3 C;obtain ⟨n2,Q,f2,ah⟩:=DataW.trod_string Tryz.underlying9 D;obtain ⟨ad,R,f3,r3⟩:=DataW.trod_string Tryz.underlying9 I;obtain ⟨ae,U,f4,ai⟩:=DataW.trod_string Tryz.underlying9 J;simp only [kX,fZ] at e0 e1 Q R U;subst e0 e1 Q R U;have Y:=Wi af;refine ⟨⟨ac,n1,n2,ad,ae⟩,⟨Y.1,Y.2,ah,r3,ai⟩,rfl,?_⟩;rw [ab,f0,f1,f2,f3,f4]
  rfl
def Zq{enc:TypeId×Value->H}{a0 Zr aa5 d p}(h:DataW.Trod enc Tryz.prog W 0 (fun _=>true) true 36 (.slice a0 Zr aa5) d p):
  ∃n,M3 W (.slice a0 Zr aa5) n/\(∀x∈p,x.block<W.heap.size)/\((d=.nil/\n=0)\/∃el al,d=.slice el al/\el.length=n):=by
 obtain ⟨fuel,Z⟩:=h
 rcases Deep.open_slice Tryz.underlying36 Z with ⟨I,C⟩|⟨a,len,cap,m,n,am,J,I,_,hl,av,U,C,Y⟩
 ·simp only [Value.cells,List.toList_toArray,kX,fZ,aK] at I;simp only [gY] at C;obtain ⟨rfl,rfl,rfl⟩:=I;obtain ⟨rfl,rfl⟩:=C;exact ⟨0,.inl ⟨rfl,rfl⟩,ar,.inl ⟨rfl,rfl⟩⟩
 ·simp only [Value.cells,List.toList_toArray,kX,fZ,aK] at I;simp only [gY] at C;obtain ⟨rfl,rfl,rfl⟩:=I;obtain ⟨rfl,rfl⟩:=C;simp only [if_true] at U;subst U;have each:∀i,i<m->∃st:St,IQ st/\W.cell? (a.add (i*5))=some (.int .i64 st.kd)/\W.cell? ⟨(a.add (i*5)).block,(a.add (i*5)).off+1,none⟩=some (.int .i64 st.ee)/\W.cell? ⟨(a.add (i*5)).block,(a.add (i*5)).off+2,none⟩=some (.string st.s)/\W.cell? ⟨(a.add (i*5)).block,(a.add (i*5)).off+3,none⟩=some (.string st.rr)/\W.cell? ⟨(a.add (i*5)).block,(a.add (i*5)).off+4,none⟩=some (.string st.ww)/\J i=[]:=fun i hi=>by
   obtain ⟨an,h1,h2⟩:=Y i hi;rw [Cx] at h1;obtain ⟨_,au,D⟩:=World.cells?_some h1;obtain ⟨st,ok,rfl,ac⟩:=Wj h2;exact ⟨st,ok,D 0 ai,D 1 ai,D 2 ai,D 3 ai,D 4 ai,ac⟩
  have ab:∃V:St,True:=⟨⟨0,0,⟨#[]⟩,⟨#[]⟩,⟨#[]⟩⟩,trivial⟩;obtain ⟨V,_⟩:=ab;have ch:∃z:Nat->St,∀i,i<m->IQ (z i)/\W.cell? (a.add (i*5))=some (.int .i64 (z i).kd)/\W.cell? ⟨(a.add (i*5)).block,(a.add (i*5)).off+1,none⟩=some (.int .i64 (z i).ee)/\W.cell? ⟨(a.add (i*5)).block,(a.add (i*5)).off+2,none⟩=some (.string (z i).s)/\W.cell? ⟨(a.add (i*5)).block,(a.add (i*5)).off+3,none⟩=some (.string (z i).rr)/\W.cell? ⟨(a.add (i*5)).block,(a.add (i*5)).off+4,none⟩=some (.string (z i).ww)/\J i=[]:=by
   have:∀i,∃st:St,i<m->IQ st/\W.cell? (a.add (i*5))=some (.int .i64 st.kd)/\W.cell? ⟨(a.add (i*5)).block,(a.add (i*5)).off+1,none⟩=some (.int .i64 st.ee)/\W.cell? ⟨(a.add (i*5)).block,(a.add (i*5)).off+2,none⟩=some (.string st.s)/\W.cell? ⟨(a.add (i*5)).block,(a.add (i*5)).off+3,none⟩=some (.string st.rr)/\W.cell? ⟨(a.add (i*5)).block,(a.add (i*5)).off+4,none⟩=some (.string st.ww)/\J i=[]:=fun i=>by
    by_cases hi:i<m
    ·obtain ⟨st,h⟩:=each i hi;exact ⟨st,fun _=>h⟩
    exact ⟨V,fun h=>absurd h hi⟩
   exact PJ
  obtain ⟨z,Q⟩:=ch;refine ⟨Zr,.inr ⟨a,m,z,rfl,hl,fun j ap=> ?_⟩,fun x C=> ?_,.inr ⟨_,_,rfl,ar⟩⟩
  ·obtain ⟨ad,ae,af,ah,aj,ak,_⟩:=Q j ai;exact ⟨ad,ae,af,ah,aj,ak⟩
  rcases aW.1 C with C|C
  ·obtain ⟨i,hi,rfl⟩:=MemPlace.mem_row.1 C;rw [Cx] at hi;have h0:=(Q 0 ai).2.1;have:=World.block_lt_of_cell? W _ h0;have R:∀q,(a.add q).block=a.block:=fun q=>by unfold Addr.add;split<;>rfl
   rw [R] at this
   simpa [MemPlace.block,R] using this
  obtain ⟨i,hi,C⟩:=bZ.1 C;rw [(Q i (List.mem_range.1 hi)).2.2.2.2.2.2] at C
  cases C
end Go.Proofs.YtlbpnlngckgcbaaGreatDoor
namespace Go.Proofs.YtlbpnlngckgcbaaGreatDoor
open Go.ChangeShapes Go.WideShapes Go.RowKit Go.Proofs.Tryz
def gOwn:ownKnob Tryz.prog.godebug=none:=by kernel_rfl
def gVar:Tryz.prog.globalNamed "errors.errorType"=some 0:=by kernel_rfl
def gRt:(Tryz.prog.cutTypes.find? (·.1== "internal/reflectlite.rtype")).map (·.2)=some 325:=by kernel_rfl
def gSize:Tryz.prog.types.size=445:=by kernel_rfl
def gOne:((List.range 445).filter fun t=>Tryz.prog.rowNamed t [101,114,114,111,114])=[77]:=by kernel_rfl
def gLaid:laidOutB Tryz.prog=true:=by kernel_rfl
def X9:Tryz.prog.globals.size=5:=by kernel_rfl
def gFour:((begin Tryz.prog (fun _ _=>0) default).world.heap[4]?).bind Obj.row? =some ((((begin Tryz.prog (fun _ _=>0) default).world.heap[4]?).bind Obj.row?).getD (#[],0)):=by kernel_rfl
variable {W:World}
def Zs(h:laidMet Tryz.prog [("math/bits.deBruijn32tab",Rows.laid_math_bits_deBruijn32tab),("math/bits.deBruijn64tab",Rows.laid_math_bits_deBruijn64tab),("internal/strconv.uint64pow10",Rows.laid_internal_strconv_uint64pow10)] W):nV W:=by
 obtain ⟨ps,⟨_,_,_,_,_,_,_,_,_,_,⟨_,_,_,_,_,_,_,_,_,_,⟨g',J,cs,fuel,p,q,C,D,I,A,_,_⟩,_⟩,_⟩,_⟩:=h;obtain rfl:=gM ((show Tryz.prog.globalNamed "internal/strconv.uint64pow10"=some 2 by kernel_rfl).symm.trans C);obtain rfl:=gM ((show (Tryz.prog.globals[2]?).map (·.type)=some 413 by kernel_rfl).symm.trans D);unfold nV Lib.TabIs;rw [I];rw [<-Lib.cells_of_tab (zs:=Lib.pow10Tab) (k:=.u64) Tryz.underlying413 Tryz.underlying192 aM aM A]
variable {H:Type} {fn:Func} {again:Bool}
def Fm{enc:TypeId×Value->H}{a C os f s conds apart fresh handsOn}{X:World->Array Value->Prop}(Q:∀(w w':World)(args:Array Value),w.heap=w'.heap->X w args->X w' args)(own:ownKnob C.prog.godebug=none)(ak:os.Started)(aj:C.prog.inits.idxOf? f=none)(U:C.prog.funcs[f]? =some fn) (al:∃(w:World)(tape:Tape)(i:Input),w.os=os/\(w.forCall tape i).Shaped C.prog/\i.vars=[]/\Input.okWide C.prog (w.forCall tape i) .any w.heap.size f i/\
   ((s.pre enc C.prog fn conds apart (w.forCall tape i).memory i.args/\X (w.forCall tape i).memory i.args)/\sizedMet enc C.prog fn (OpenSpec.ofChange s) apart (w.forCall tape i).memory i.args)/\a.holds C.prog (lone (Frame.enter C.prog f i.args .normal) [] (w.forCall tape i))) (I:∀(W:World) (base:Nat) (args:Array Value) (ds gs:List (DataW H)) (A:List MemPlace),
   (∀(j:Nat) t v,fn.params[j]? =some t->args[j]? =some v->Value.okWide C.prog W .any base t v)->
   DataW.Whole enc C.prog fn.params.toList s.vars apart W args.toList ds gs A->
   conds.all (PathCond.test C.prog ⟨fn.params.toList,ds,s.plain.varTypes C.prog,gs⟩)=true->
   (DataW.weightsEach C.prog (fn.params.toList++s.plain.varTypes C.prog) (ds++gs)).all (· <=reachBytes)=true->W.ShapedOpen C.prog->X W args->
   a.holds C.prog (lone (Frame.enter C.prog f args .normal) [] W)->
   Calls C.prog f args W fun e W'=>∃v,e=bi v/\s.post enc C.prog fn apart fresh handsOn again W args v W'):
  ReturnsInHanded a C os f .any (fun w args=>(s.pre enc C.prog fn conds apart w args/\X w args)/\sizedMet enc C.prog fn (OpenSpec.ofChange s) apart w args) (s.post enc C.prog fn apart fresh handsOn again):=by
 refine returnsInHanded_of_calls own ak aj al ?_;intro w tape i _ ad _ Z ac Y;obtain ⟨_,_,_,J,V,_,_,_,_,ae⟩:=Z;have e:J=fn:=gM (V.symm.trans U);subst e;obtain ⟨⟨⟨ds,gs,A,D,hc⟩,ah⟩,ai⟩:=ac;refine (I (w.forCall tape i) w.heap.size i.args ds gs A ae (DataW.Whole.of_heap (w':=w.forCall tape i) bQ D) hc (ai.weights D) ad (Q _ _ _ bQ ah) Y).mono fun e W' ⟨v,R,ab⟩=> ?_
 subst R;exact ChangeSpec.post_blind ab
end Go.Proofs.YtlbpnlngckgcbaaGreatDoor
