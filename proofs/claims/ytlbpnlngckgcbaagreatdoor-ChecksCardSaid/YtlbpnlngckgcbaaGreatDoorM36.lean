import Derived.Test.YtlbpnlngckgcbaaGreatDoorM28
import Derived.Test.YtlbpnlngckgcbaaGreatDoorM05
import Derived.Test.YtlbpnlngckgcbaaGreatDoorM31
import Derived.Test.YtlbpnlngckgcbaaGreatDoorM33
import Derived.Deep.DeepAppendWide
import Derived.Deep.Slices
import Derived.ChangeArms
import Derived.SizedLaws
import Derived.Lib.LaidTab
import Derived.Shelf.Vars
import Derived.ChangeSame
import Derived.DataShut
import Derived.OpenShut
import Derived.ChangeVars
import Derived.ChangeSlices
import Derived.Carry
import Derived.LaidLaws
import Derived.LaidHandle
import Derived.LaidMore
import Derived.LaidSub
import Derived.Test.YtlbpnlngckgcbaaGreatDoorRows
import Derived.HandedShaped
import Derived.JoinedOf
import Derived.Stop.Joined
set_option linter.all false
set_option maxHeartbeats 4000000
set_option maxRecDepth 100000
namespace Go.Proofs.YtlbpnlngckgcbaaGreatDoor
open Go.RowKit Go.PlainAid Go.Proofs.Tryz
variable {aF cD:Prop}
def AL (A:aF:=by
 unfold Ud;decide):aF:=A
def LZ (A:aF:=by
 rw [e] at hr;obtain ⟨D,C,_⟩:=eD hr;exact ⟨_,_,C,.inr rfl⟩):aF:=A
structure fq where
 x:Nat
 y:Nat
 bm:Nat
 mv:ag
 lv:ag
 gv:ag
 tv:ag
 ts:List Ty
 gs:List Tu
 ss:List ae
 I:Nat->Prop
structure IE(w:af)(x:Nat)(mv lv gv:ag)(ts:List Ty)(gs:List Tu):Prop where
 p:PU w x mv lv gv gs
 m:∃bm tl,MC bm w mv ts tl
 l:Rt ts lv w
structure Hu(w:af)(y bm:Nat)(tv:ag)(ts:List Ty)(ss:List ae)(I:Nat->Prop):Prop where
 d:DU w y (.pointer (some ⟨bm,5,none⟩)) tv ss
 r:XS ts I bm w
 il:∀k,I k->k<w.heap.size
 most:ss.length<=24
structure UR(w:af)(u:fq):Prop where
 up:IE w u.x u.mv u.lv u.gv u.ts u.gs
 ud:Hu w u.y u.bm u.tv u.ts u.ss u.I
 both:rL u.gs u.ss
 lets:rj u.ts u.gs
def US(u:fq)(k:Nat):Prop:=yJ u.x u.gv k\/Dr u.y u.tv k
def Ud(T:TypeId):Prop:=T=117\/T=123\/T=262\/T=264
def MD(T:TypeId):Prop:=(T=207\/T=159\/T=110)\/LT T\/RT T
variable {w:af} {base size n k:Nat} {e:TypeId} {v:ag} {xs:List ag}
theorem AM(A:w.ownsRow base e size v n xs)(h:v.ownBlock=some k):∃m c,v=.slice (some ⟨k,0,none⟩) m c:=by
 rcases A.2 with ⟨rfl,_⟩|⟨g,cap,C,rfl,_⟩
 ·cases h
 simp only [Value.ownBlock,aK] at h;subst h;exact ⟨_,_,rfl⟩
variable {mv lv gv:ag} {ts:List Ty} {gs:List Tu}
theorem IE.ty{x}(I:IE w x mv lv gv ts gs)(J:yJ x gv k):∃cs T,aB w k cs T/\(T=117\/T=123):=by
 rcases J with rfl|⟨n,c,e⟩
 ·exact ⟨_,_,I.p.blk,.inl rfl⟩
 have hr:=I.p.row;exact LZ
variable {bm:Nat} {tv:ag} {ss:List ae}
theorem Hu.ty{y I}(J:Hu w y bm tv ts ss I)(O:Dr y tv k):∃cs T,aB w k cs T/\(T=262\/T=264):=by
 rcases O with rfl|⟨n,c,e⟩
 ·exact ⟨_,_,J.d.blk,.inl rfl⟩
 have hr:=J.d.row;exact LZ
variable {u:fq}
theorem UR.ty(D:UR w u)(h:US u k):∃cs T,aB w k cs T/\Ud T:=by
 rcases h with h|h
 ·obtain ⟨cs,T,A,C⟩:=D.up.ty h;exact ⟨cs,T,A,C.elim .inl (fun e=> .inr (.inl e))⟩
 obtain ⟨cs,T,A,C⟩:=D.ud.ty h;exact ⟨cs,T,A,C.elim (fun e=> .inr (.inr (.inl e))) (fun e=> .inr (.inr (.inr e)))⟩
theorem UR.lt(h:UR w u)(C:US u k):k<w.heap.size:=by
 obtain ⟨cs,T,A,_⟩:=h.ty C;exact A.lt
variable {cs:Array ag} {T:TypeId}
theorem UR.nty(C:UR w u){f:Nat×Nat}(D:US u k)(A:w.heap[k]? =some (.cells cs T f)):Ud T:=by
 obtain ⟨J,T',h,I⟩:=C.ty D;unfold aB at h;rw [h] at A
 cases A
 exact I
variable {w':af}
theorem IE.keep{S:Nat->Prop}{x:Nat}(h:IE w x mv lv gv ts gs)(k:bI S w w')(D:∀k,yJ x gv k->¬S k)(I:∀(k:Nat)(cs:Array ag)(T:TypeId)(f:Nat×Nat),S k->w.heap[k]? =some (Obj.cells cs T f)->¬((T=207\/T=159\/T=110)\/LT T)):IE w' x mv lv gv ts gs where
 p:=⟨k.blk h.p.blk (D _ (.inl rfl)),cA h.p.row (fun g cs f J A=>k.block g (lt_of_some A) (D g (.inr (AM h.p.row J)))),h.p.apart,h.p.most⟩
 m:=by
  obtain ⟨bm,tl,O⟩:=h.m;exact ⟨bm,tl,O.kt (fun g cs T f A C=>k.block g (lt_of_some A) (fun hs=>I g cs T f hs A (.inl C))) k.size⟩
 l:=by
  obtain ⟨qs,h1,h2⟩:=h.l;exact ⟨qs,h1.frame (fun g cs T f A C=>k.block g (lt_of_some A) (fun hs=>I g cs T f hs A (.inr C))),h2⟩
theorem Hu.keep{S:Nat->Prop}{y:Nat}{I:Nat->Prop}(h:Hu w y bm tv ts ss I)(k:bI S w w')(C:∀k,Dr y tv k->¬S k)(D:∀(k:Nat)(cs:Array ag)(T:TypeId)(f:Nat×Nat),S k->w.heap[k]? =some (Obj.cells cs T f)->RT T->T=3/\¬I k):Hu w' y bm tv ts ss I where
 d:=⟨k.blk h.d.blk (C _ (.inl rfl)),cA h.d.row (fun g cs f J A=>k.block g (lt_of_some A) (C g (.inr (AM h.d.row J)))),h.d.apart,h.d.most⟩
 r:=h.r.kx (fun g cs T f A O hi=>k.block g (lt_of_some A) (fun hs=>by
  obtain ⟨e,hn⟩:=D g cs T f hs A O;exact hn (hi e)))
 il:=fun i hi=>cg (h.il i hi) k.size
 most:=h.most
theorem UR.keep{S:Nat->Prop}(C:UR w u)(k:bI S w w')(O:∀k,US u k->¬S k)(Q:∀(k:Nat)(cs:Array ag)(T:TypeId)(f:Nat×Nat),S k->w.heap[k]? =some (Obj.cells cs T f)->MD T->T=3/\¬u.I k):UR w' u where
 up:=C.up.keep k (fun i hi=>O i (.inl hi)) (fun i cs T f hs J D=>by
  have e:=(Q i cs T f hs J (D.elim .inl (fun C=> .inr (.inl C)))).1;subst e;exact absurd D wb)
 ud:=C.ud.keep k (fun i hi=>O i (.inr hi)) (fun i cs T f hs J D=>Q i cs T f hs J (.inr (.inr D)))
 both:=C.both
 lets:=C.lets
theorem UR.below(h:UR w u)(k:Below w.heap.size w w'):UR w' u:=h.keep (S:=fun _=>False) (.of_below k) (fun _ _ e=>e) (fun _ _ _ _ e=>e.elim)
def qH(w:af)(v:ag)(t:ae):Prop:=v=.slice none 0 0\/∃g n c cs f,v=.slice (some ⟨g,0,none⟩) n c/\w.heap[g]? =some (Obj.cells cs 9 f)/\n<=1000/\∀i,i<n->cs[i]? =some (.string t)
theorem qH.frame{t}(h:qH w v t)(k:∀(g:Nat)(cs:Array ag)(f:Nat×Nat),w.heap[g]? =some (Obj.cells cs 9 f)->w'.heap[g]? =w.heap[g]?):qH w' v t:=by
 rcases h with h|⟨g,n,c,cs,f,h1,h2,A⟩
 ·exact .inl h
 exact .inr ⟨g,n,c,cs,f,h1,(k g cs f h2).trans h2,A⟩
def OU(u:fq):List ag:=[.pointer (some ⟨u.x,0,none⟩),.pointer (some ⟨u.y,0,none⟩)]
structure WS(base:Nat)(w:af)(b:Nat)(lv ju jl:ag)(us:List fq)(ms:List (ag×Nat)):Prop where
 blk:aB w b #[lv,ju,jl] 31
 low:base<=b
 l:w.ownsRow base 86 2 lv us.length (us.flatMap OU)
 ls:w.ownsRow base 22 1 ju ms.length (ms.map Prod.fst)
 ks:w.ownsRow base 3 1 jl ms.length (ms.map fun m=> .int .i64 m.2)
 ur:∀u∈us,UR w u
 lowu:∀u∈us,∀k,US u k->base<=k
 ap:us.Pairwise (fun u v=>∀k,US u k->¬US v k)
 apk:∀u∈us,∀k,jl.ownBlock=some k->¬u.I k
 mrk:∀m∈ms,qH w m.1 (E4 m.2)
 mks:∀m∈ms,m.2<=ms.length
variable {b:Nat} {ju jl:ag} {us:List fq}
theorem WS.below{ms}(h:WS base w b lv ju jl us ms)(k:Below w.heap.size w w'):WS base w' b lv ju jl us ms:=
 ⟨h.blk.below k,h.low,aE h.l k,aE h.ls k,aE h.ks k,fun u D=>(h.ur u D).below k,h.lowu,h.ap,h.apk,fun m C=>(h.mrk m C).frame (fun g cs f A=>k.block g (lt_of_some A)),h.mks⟩
variable {i:Nat}
theorem WS.upd{ms}(C:WS base w b lv ju jl us ms){u'}(hi:us[i]? =some u)(k:bI (US u) w w')(av:UR w' u')(aw:u'.x=u.x)(ay:u'.y=u.y)(ae:∀k,US u' k->US u k\/w.heap.size<=k)(ai:∀k,jl.ownBlock=some k->¬u'.I k):
  WS base w' b lv ju jl (us.set i u') ms/\Below base w w':=by
 have R:i<us.length:=by
  rcases ii i us.length with C|C
  ·exact C
  rw [k7 C] at hi;cases hi
 have V:us[i]=u:=by rw [aG R] at hi;exact gu hi
 have ab:u∈us:=bx hi;have af:=C.ur u ab;have al:base<=w.heap.size:=by have:=C.low;have:=C.blk.lt;omega
 have key:∀(g:Nat)(cs:Array ag)(T:TypeId)(f:Nat×Nat),w.heap[g]? =some (Obj.cells cs T f)->¬Ud T->w'.heap[g]? =w.heap[g]? :=fun g cs T f D Z=>k.block g (lt_of_some D) (fun hs=>Z (af.nty hs D))
 have U:=ja.1 C.ap;have am:(us.set i u').flatMap OU=us.flatMap OU:=by
  have e:us.set i u'=us.take i++u'::us.drop (i+1):=by rw [List.set_eq_take_append_cons_drop,if_pos R]
  have ah:us=us.take i++u::us.drop (i+1):=by rw [<-V,List.getElem_cons_drop,og]
  rw [e]
  conv=>rhs;rw [ah]
  simp [OU,aw,ay]
 have au:∀j (J:j<us.length),i≠j->UR w' us[j]:=fun j J Y=>(C.ur _ (bu J)).keep k (fun q O hs=>by
   rcases tF Y with Q|Q
   ·exact U i j R J Q q (by rw [V];exact hs) O
   ·exact U j i J R Q q O (by rw [V];exact hs))
  (fun q cs T f hs D Z=>absurd Z (by
   have:=af.nty hs D
   rcases this with rfl|rfl|rfl|rfl<;>(unfold MD LT RT;decide)))
 refine ⟨⟨(key b _ _ _ C.blk AL).trans C.blk,C.low,?_,ax C.ls (fun g cs f _ D=>key g cs _ f D AL),ax C.ks (fun g cs f _ D=>key g cs _ f D AL),fun v hv=> ?_,fun v hv=> ?_,?_,fun v hv=> ?_,fun m ar=>(C.mrk m ar).frame (fun g cs f D=>key g cs _ f D AL),C.mks⟩,k.below al (fun g an=>C.lowu u ab g an)⟩
 ·rw [am,gK];exact ax C.l (fun g cs f _ D=>key g cs _ f D AL)
 ·obtain ⟨j,J,rfl⟩:=dn hv;rw [gK] at J
  by_cases e:i=j
  ·subst e;rw [jE];exact av
  rw [jb e];exact au j J e
 ·rcases qq hv with hv|rfl
  ·exact C.lowu v hv
  intro q O
  rcases ae q O with e|e
  ·exact C.lowu u ab q e
  omega
 ·refine ja.2 (fun a c ha hc ak q O e=> ?_);rw [gK] at ha hc;have old:∀j (J:j<us.length),i≠j->US us[j] q->US u' q->False:=fun j J Y h1 h2=>by
   rcases ae q h2 with e|e
   ·rcases tF Y with Q|Q
    ·exact U i j R J Q q (by rw [V];exact e) h1
    exact U j i J R Q q h1 (by rw [V];exact e)
   have:=(C.ur _ (bu J)).lt h1;omega
  by_cases ac:i=a
  ·subst ac;rw [jE] at O;rw [jb aj] at e;exact old c hc aj e O
  rw [jb ac] at O
  by_cases ad:i=c
  ·subst ad;rw [jE] at e;exact old a ha aj O e
  rw [jb ad] at e;exact U a c ha hc ak q O e
 ·rcases qq hv with hv|rfl
  ·exact C.apk v hv
  exact ai
def RK(u:fq)(w:af)(c:Nat)(ts:List Ty)(gs:List Tu)(e:Ending)(w':af):Prop:=∃mv lv gv,e=.returned (.int .i64 c)/\IE w' u.x mv lv gv ts gs/\bI (yJ u.x u.gv) w w'/\∀k,yJ u.x gv k->yJ u.x u.gv k\/w.heap.size<=k
def RL(u:fq)(w:af)(c:Nat)(ts:List Ty)(ss:List ae)(e:Ending)(w':af):Prop:=∃bm tv I,e=.returned (.int .i64 c)/\Hu w' u.y bm tv ts ss I/\bI (Dr u.y u.tv) w w'/\(∀k,Dr u.y tv k->Dr u.y u.tv k\/w.heap.size<=k)/\∀k,I k->u.I k\/w.heap.size<=k
def Ut(f1 f2:Nat)(u:fq)(s:ae):Prop:=∀w,UR w u->Laid w->kO w->1<w.heap.size->∃c ts gs ss,(rL gs ss/\rj ts gs)/\Calls prog f1 #[.pointer (some ⟨u.x,0,none⟩),.string s] w (RK u w c ts gs)/\∀w',Hu w' u.y u.bm u.tv u.ts u.ss u.I->Calls prog f2 #[.pointer (some ⟨u.y,0,none⟩),.string s] w' (RL u w' c ts ss)
variable {c:Nat}
theorem Hv(h:IE w u.x u.mv u.lv u.gv u.ts u.gs)(k:Below w.heap.size w w'):RK u w c u.ts u.gs (.returned (.int .i64 c)) w':=⟨_,_,_,rfl,h.keep (S:=fun _=>False) (.of_below k) (fun _ _ e=>e) (fun _ _ _ _ e=>e.elim),.of_below k,fun _ h=> .inl h⟩
theorem Hw(h:Hu w u.y u.bm u.tv u.ts u.ss u.I)(k:Below w.heap.size w w'):RL u w c u.ts u.ss (.returned (.int .i64 c)) w':=⟨_,_,_,rfl,h.keep (S:=fun _=>False) (.of_below k) (fun _ _ e=>e) (fun _ _ _ _ e=>e.elim),.of_below k,fun _ h=> .inl h,fun _ h=> .inl h⟩
theorem XS.fin{I}(C:XS ts I bm w):XS ts (fun k=>I k/\k<w.heap.size) bm w:=by
 obtain ⟨kv,rv,pv,kl,rl,pl,l,A,h1,h2,D,J⟩:=C;exact ⟨kv,rv,pv,kl,rl,pl,l,A,h1,h2,D,fun x h i hi=>⟨J x h i hi,((h1.dm.pt.rep x h).p.lt i hi).2⟩⟩
theorem AN:rL [] []:=⟨rfl,fun _ h=>by cases h⟩
theorem load2(u s):Ut 27 83 u s:=by
 intro w R V ae h1
 cases O:fo s with
 |error er=>
  obtain ⟨o,c⟩:=er;have hc:=(nB O w).1;refine ⟨c,u.ts,u.gs,u.ss,⟨R.both,R.lets⟩,(vZ u.x s w o c O hc V).mono fun e w' ⟨I,D⟩=> ?_,fun w' Q=> ?_⟩
  ·rw [I];exact Hv R.up D
  obtain ⟨_,p,C⟩:=nB O w';refine (G4 u.y s w' _ _ _ Q.d c p hc C).mono fun e w'' ⟨I,D⟩=> ?_
  rw [I];exact Hw Q D
 |ok ts=>
  refine ⟨0,ts,[],[],⟨AN,fun _ U=>by cases U⟩,(z8 Rt KQ xN u.x s w _ _ _ R.up.p.blk ts O V).mono fun e w' ⟨mv,lv,bm,tl,I,ac,ab,Z,D⟩=> ?_,fun w' Q=> ?_⟩
  ·exact ⟨mv,lv,_,I,⟨ac,⟨bm,tl,ab⟩,Z⟩,D.mono (fun k e=> .inl e),fun k J=>by
    rcases J with e|⟨n,c,e⟩
    ·exact .inl (.inl e)
    cases e⟩
  refine (KS u.y s w' _ _ _ Q.d (XS ts (fun k=>w'.heap.size<=k)) (fun bm w w' U k=>U.kd k) (wy O w')).mono fun e w'' ⟨bm,I,Y,ad,D⟩=> ?_
  exact ⟨bm,_,_,I,⟨Y,ad.fin,fun k J=>J.2,an⟩,D.mono (fun k e=> .inl e),(fun k J=>by
   rcases J with e|⟨n,c,e⟩
   ·exact .inl (.inl e)
   cases e),fun k J=> .inr J.1⟩
theorem KD.of_dus{y I}(J:Hu w y bm tv ts ss I)(k:bI (Dr y tv) w w'):KD w w':=KD.of_butS k (fun g cs T f hs D Q=>by
 obtain ⟨R,T',C,O⟩:=J.ty hs;unfold aB at C;rw [C] at D
 cases D
 rcases O with rfl|rfl<;>exact absurd Q Ab)
theorem Fk{r:Nat×List Tu}{e}(J:UR w u)(R:jJ u.x u.mv u.lv u.gv w r e w'):RK u w r.1 u.ts r.2 e w':=by
 obtain ⟨Q,V,ab,I,Y⟩:=R;have key:∀(k:Nat)(cs:Array ag)(T:TypeId)(f:Nat×Nat),yJ u.x u.gv k->w.heap[k]? =some (Obj.cells cs T f)->¬((T=207\/T=159\/T=110)\/LT T):=fun k cs T f hs C D=>by
  obtain ⟨ac,T',O,U⟩:=J.up.ty hs;unfold aB at O;rw [O] at C
  cases C
  rcases U with rfl|rfl<;>exact absurd D wb
 refine ⟨_,_,Q,V,⟨ab,?_,?_⟩,I,Y⟩
 ·obtain ⟨bm,tl,Z⟩:=J.up.m;exact ⟨bm,tl,Z.kt (fun g cs T f C D=>I.block g (lt_of_some C) (fun hs=>key g cs T f hs C (.inl D))) I.size⟩
 obtain ⟨qs,h1,h2⟩:=J.up.l;exact ⟨qs,h1.frame (fun g cs T f C D=>I.block g (lt_of_some C) (fun hs=>key g cs T f hs C (.inr D))),h2⟩
theorem Fl{r:Nat×List ae}{e}(A:Hu w u.y u.bm u.tv u.ts u.ss u.I)(D:ix u.y (.pointer (some ⟨u.bm,5,none⟩)) u.tv w r e w')(Q:r.2.length<=24):RL u w r.1 u.ts r.2 e w':=by
 obtain ⟨U,J,R,h,O⟩:=D;exact ⟨_,U,u.I,J,⟨R,A.r.kd (KD.of_dus A h),fun k C=>cg (A.il k C) h.size,Q⟩,h,O,fun k C=> .inl C⟩
variable {rl:List RV} {s:ae}
theorem OV{dk}(h:ss.length<=24):(Nv rl dk ss s).2.length<=24:=by
 unfold Nv
 split
 ·exact h
 split
 ·exact h
 split
 ·exact h
 split
 ·exact h
 split
 ·exact h
 simp;omega
theorem L0(h:ss.length<=24):(AD ss s).2.length<=24:=by
 unfold AD
 split
 ·exact h
 split
 ·exact h
 have:=List.length_eraseIdx_le ss (jK ss s).toNat;simp only
 first|omega|(rw [xx] at this;simp at*;omega)
theorem L3(h:rL gs ss):gs.length=ss.length:=by rw [h.eq,cK]
theorem RN(u s)(hs:s.size<=maxLen):Ut 28 84 u s:=by
 intro w D af ag h1;obtain ⟨bm,tl,ah⟩:=D.up.m;obtain ⟨kv,rv,pv,kl,rl,pl,l,Q,ax,ai,aw,_⟩:=D.ud.r;have hl:=L3 D.both;have al:=D.ud.most;obtain ⟨e1,I⟩:=um ai D.both s;refine ⟨(Oy u.ts u.gs s).1,u.ts,(Oy u.ts u.gs s).2,(Nv rl Q u.ss s).2,⟨I,OS D.lets s⟩,(CV Dy u.x bm s w _ _ _ _ u.ts tl D.up.p ah ag h1 af aj).mono fun e w' C=>Fk D C,fun w' J=> ?_⟩;obtain ⟨ar,av,pv',ap,V,j6,au,R,ad,ak,ac,_⟩:=J.r;obtain ⟨ab,U⟩:=um ak D.both s;have am:(Nv rl Q u.ss s).2=(Nv V R u.ss s).2:=by
  have Y:=I.eq;have Z:=U.eq;have inj:∀(l m:List ae),(∀y∈l,di y=true)->(∀y∈m,di y=true)->l.map ul=m.map ul->l=m:=by
   intro l
   induction l with
   |nil=>intro m _ _ C;cases m with
    |nil=>rfl
    |cons _ _=>simp at C
   |cons x l ih=>intro m h1 h2 C;cases m with
    |nil=>simp at C
    |cons y m=>
     simp only [cj,ke] at C;rw [Fg (h1 x an) (h2 y an) C.1,ih m (fun z O=>h1 z (by simp [O])) (fun z O=>h2 z (by simp [O])) C.2]
  exact inj _ _ I.ok U.ok (Y.symm.trans Z)
 rw [am,ab];exact (Dt u.y u.bm s w' ar av pv' _ ap V j6 au u.ss R J.d ad.dm ac.1 hs aj).mono fun e w'' C=>Fl J C (OV al)
theorem OW(u s)(hs:s.size<=maxLen):Ut 35 85 u s:=by
 intro w h J I h1;obtain ⟨e1,D⟩:=LO h.both s;refine ⟨(xK u.gs s).1,u.ts,(xK u.gs s).2,(AD u.ss s).2,⟨D,LW h.lets s⟩,(zS Dy u.x s w _ _ _ _ h.up.p I h1).mono fun e w' A=>Fk h A,fun w' C=> ?_⟩;rw [e1];exact (AE u.y s w' _ _ _ C.d hs).mono fun e w'' A=>Fl C A (L0 h.ud.most)
abbrev jT(a0:Option Addr)(a1:Option Addr):Obj:=.cells #[.pointer a0,.pointer a1] 86
abbrev lP(a0:Int)(a1:Int)(a2:ae)(a3:ae)(a4:ae):Obj:=.cells #[.int .i64 a0,.int .i64 a1,.string a2,.string a3,.string a4] 34
def Fm (A:aF:=by
 have:=bw.size;omega):aF:=A
def Qz (au:aF:=by
 clear HL Uu Uv RO RQ RR;exact L4):aF:=au
def L4 (ae:aF:=by
 go_enter func46,ntmps46;go_wp2_with fail;refine C1.u.mono ?_;rintro e w1 ⟨am,al,ak,rfl,U,C,O⟩;have D:=ai (CD.u w1 (AO HU.u C));have ac:=ai (PB.u.butS C HU.u ar);have ad:=ai (SB.u.butS C HU.u ar);obtain ⟨af,p1⟩:=hS ac.u;have ag:w1.cell? ⟨w.heap.size+1,2,none⟩=some (.string s):=ad.u.cell rfl;have ab:=ai U;have V:=ai C;have Y:=ai O;clear U C O C1;go_wp2_with fail;refine D.u.mono ?_;rintro e ap ⟨aj,an,ah,rfl,J,I,Q,R⟩;have Z:=ai (L5 HWS.u hi HU.u BW.u Uw.u ab.u V.u Y.u J I Q R);clear J I Q R D af p1 ag;go_wp2;go_ret;exact ⟨rfl,Z.u⟩):aF:=ae
variable {w1:af}
theorem AO(D:UR w u)(R:bI (yJ u.x u.gv) w w1):Hu w1 u.y u.bm u.tv u.ts u.ss u.I:=D.ud.keep R (fun k U hs=>by
  obtain ⟨cs,T,h1,h2⟩:=D.ud.ty U;obtain ⟨Q,T',C,J⟩:=D.up.ty hs;unfold aB at h1 C;rw [h1] at C
  cases C
  rcases h2 with rfl|rfl<;>exact absurd J ar)
 (fun k cs T f hs O V=>by
  obtain ⟨Q,T',C,J⟩:=D.up.ty hs;unfold aB at C;rw [C] at O
  cases O
  rcases J with rfl|rfl<;>exact absurd V Ab)
variable {g:Nat}
theorem aB.butS(h:aB w g cs T)(D:bI (yJ u.x u.gv) w w1)(J:UR w u)(I:¬(T=117\/T=123)):aB w1 g cs T:=D.blk h (fun hs=>by
 obtain ⟨O,T',A,C⟩:=J.up.ty hs;unfold aB at h A;rw [h] at A
 cases A
 exact I C)
def L6(base b:Nat)(lv ju jl:ag)(us:List fq)(h:List (ag×Nat))(i:Nat)(w w':af):Prop:=(∃u',WS base w' b lv ju jl (us.set i u') h)/\Below base w w'
variable {W:af}
theorem L5{ms w2}(J:WS base w b lv ju jl us ms)(hi:us[i]? =some u)(ap:UR W u)(U:Below w.heap.size w W)(Y:rL gs ss/\rj ts gs){Ux Uy Ue}(ac:IE w1 u.x Ux Uy Ue ts gs)(R:bI (yJ u.x u.gv) W w1)(ai:∀k,yJ u.x Ue k->yJ u.x u.gv k\/W.heap.size<=k){bm2 Uz I2}(ah:Hu w2 u.y bm2 Uz ts ss I2)(V:bI (Dr u.y u.tv) w1 w2)(ak:∀k,Dr u.y Uz k->Dr u.y u.tv k\/w1.heap.size<=k)(al:∀k,I2 k->u.I k\/w1.heap.size<=k):L6 base b lv ju jl us ms i w w2:=by
 have Z:=AO ap R;have aw:=R.size;have am:IE w2 u.x Ux Uy Ue ts gs:=ac.keep V (fun k C hs=>by
   obtain ⟨cs,T,h1,h2⟩:=ac.ty C;obtain ⟨ad,T',D,O⟩:=Z.ty hs;unfold aB at h1 D;rw [h1] at D
   cases D
   rcases h2 with rfl|rfl<;>exact absurd O ar)
  (fun k cs T f hs ab an=>by
   obtain ⟨ad,T',D,O⟩:=Z.ty hs;unfold aB at D;rw [D] at ab
   cases ab
   rcases O with rfl|rfl<;>exact absurd an wb)
 have Q:=J.below U;have af:bI (US u) W w2:=(R.mono (fun k e=> .inl e)).trans (V.mono (fun k e=> .inr e));obtain ⟨au,av⟩:=Q.upd (u':=⟨u.x,u.y,bm2,Ux,Uy,Ue,Uz,ts,gs,ss,I2⟩) hi af ⟨am,ah,Y.1,Y.2⟩ rfl rfl (fun k C=>by
  rcases C with C|C
  ·rcases ai k C with e|e
   ·exact .inl (.inl e)
   exact .inr e
  ·rcases ak k C with e|e
   ·exact .inl (.inr e)
   exact .inr aj) (fun k C ae=>by
  rcases al k ae with e|e
  ·exact Q.apk u (bx hi) k C e
  have:=(Q.ks.lt k C).2;omega)
 have ag:base<=w.heap.size:=by have:=J.low;have:=J.blk.lt;omega
 exact ⟨⟨_,au⟩,(U.mono ag).trans av⟩
theorem AP{ms}(aA:WS base w b lv ju jl us ms)(hi:us[i]? =some u)(kd ee s rr ww)(hs:s.size<=maxLen)(ax:Laid w)(ay:kO w)(h1:1<w.heap.size):
  Calls prog 46 #[.agg #[.pointer (some ⟨u.x,0,none⟩),.pointer (some ⟨u.y,0,none⟩)],.agg #[.int .i64 kd,.int .i64 ee,.string s,.string rr,.string ww]] w fun e w'=>e=.returned (.bool true)/\L6 base b lv ju jl us ms i w w':=by
 have bw:Below w.heap.size w ((w.alloc (jT (some ⟨u.x,0,none⟩) (some ⟨u.y,0,none⟩))).alloc (lP kd ee s rr ww)):=((aw _ w).alloc az _).alloc an _;have av:=(aA.ur u (bx hi)).below bw;have aD:=load2 u s ((w.alloc (jT (some ⟨u.x,0,none⟩) (some ⟨u.y,0,none⟩))).alloc (lP kd ee s rr ww)) av (ax.below bw aj) (ay.below bw aj) Fm;have aE:=RN u s hs ((w.alloc (jT (some ⟨u.x,0,none⟩) (some ⟨u.y,0,none⟩))).alloc (lP kd ee s rr ww)) av (ax.below bw aj) (ay.below bw aj) Fm;have aC:=OW u s hs ((w.alloc (jT (some ⟨u.x,0,none⟩) (some ⟨u.y,0,none⟩))).alloc (lP kd ee s rr ww)) av (ax.below bw aj) (ay.below bw aj) Fm;have PB:=ai ((aB.new w #[.pointer (some ⟨u.x,0,none⟩),.pointer (some ⟨u.y,0,none⟩)] 86).alloc (lP kd ee s rr ww));have SB:=ai (aB.new' (w.alloc (jT (some ⟨u.x,0,none⟩) (some ⟨u.y,0,none⟩))) #[.int .i64 kd,.int .i64 ee,.string s,.string rr,.string ww] 34 (w.heap.size+1) an);have HU:=ai av;have BW:=ai bw;have HWS:=ai aA;have HL:=ai aD;have Uu:=ai aE;have Uv:=ai aC;clear aD aE aC av bw aA ax ay h1 hs
 by_cases k3:kd=3
 ·obtain ⟨c,ts,gs,ss,RR,RO,RQ⟩:=HL.u;have C1:=ai RO;have CD:=ai RQ;have Uw:=ai RR;subst k3;exact Qz
 ·have aH:(kd==3)=false:=by simpa using k3
  by_cases aG:kd=4
  ·obtain ⟨c,ts,gs,ss,RR,RO,RQ⟩:=Uu.u;have C1:=ai RO;have CD:=ai RQ;have Uw:=ai RR;subst aG;clear HL Uu Uv RO RQ RR aH k3;exact L4
  have aI:(kd==4)=false:=by simpa using aG
  obtain ⟨c,ts,gs,ss,RR,RO,RQ⟩:=Uv.u;have C1:=ai RO;have CD:=ai RQ;have Uw:=ai RR;exact Qz
def TF (A:aF:=by
 rw [dU,aG hit];rfl):aF:=A
theorem qH.form{t}(D:qH w v t):∃a n c,v=.slice a n c/\n<=1000/\∀k,k<n->∃g,a=some ⟨g,0,none⟩/\w.cell? ⟨g,k,none⟩=some (.string t):=by
 rcases D with rfl|⟨g,n,c,cs,f,rfl,h2,I,J⟩
 ·exact ⟨none,0,0,rfl,aj,fun k C=>aj⟩
 exact ⟨_,n,c,rfl,I,fun k C=>⟨g,rfl,by simp [World.cell?,h2,J k C]⟩⟩
theorem Hz{I}(Q:WS base w b lv ju jl us I)(aH:I.length<=8796093022208)(ae:pm w)(h2:2<w.heap.size):
  Calls prog 48 #[.pointer (some ⟨b,0,none⟩)] w fun e w'=>e=.returned (.bool true)/\Below w.heap.size w w':=by
 obtain ⟨aM,aN,rfl⟩:=ay Q.ls;obtain ⟨aK,aL,rfl⟩:=ay Q.ks;obtain ⟨aO,aP,rfl⟩:=ay Q.l;have H:=ai Q;have al:=ai ae;clear Q ae;go_enter func48,ntmps48;go_wp2_with fail
 go_loopw [3] (fun u wr=>∃i:Nat,i<=I.length/\u=.int .i64 i/\Below w.heap.size w wr) (fun u _=>I.length-(intOf u).toNat)
 case atStart=>exact ⟨0,aj,rfl,aw _ _⟩
 case round=>
  obtain ⟨i,hi,rfl,R⟩:=hrel;obtain ⟨O,ar⟩:∃O,O=wr:=⟨_,rfl⟩;subst ar;have D:=H.u.below R;obtain ⟨c0,c1,c2⟩:=three D.blk;have U:=ai R
  by_cases hit:i<I.length
  ·have au:(i:Int)<(I.length:Int):=by omega
   obtain ⟨ap,d1,e1,k1⟩:=aZ D.ls i _ TF;obtain ⟨aD,d2,ab,af⟩:=aZ D.ks i _ TF;simp only [aI,cz] at e1 ab;obtain ⟨rfl,rfl⟩:=e1;obtain ⟨rfl,rfl⟩:=ab;have Y:=D.mrk _ (bu hit);have az:=D.mks _ (bu hit);generalize I[i]=m at*;obtain ⟨mv,K⟩:=m;simp only at k1 af Y az;obtain ⟨aA,n,aB,rfl,hn,ad⟩:=Y.form;have C:=ai (KR K O aj (al.u.below R h2));have ah:=ai ad;have ak:=ai k1;have an:=ai D;generalize E4 K=M at*;clear D Y ad R;go_wp2_with fail;refine C.u.mono ?_;rintro e w1 ⟨rfl,ac⟩;have ag:=ai ac;clear C ac c0 c1 c2 k1 af;go_wp2_with fail
   go_loopw [5] (fun u aC=>∃k:Nat,k<=n/\u=.int .i64 k/\Below O.heap.size O aC) (fun u _=>n-(intOf u).toNat)
   case atStart=>exact ⟨0,aj,rfl,ag.u⟩
   case round=>
    obtain ⟨k,aE,rfl,J⟩:=hrel;have V:=an.u.below J;obtain ⟨c0,c1,c2⟩:=three V.blk;have k1:wr.cell? ⟨ap,i,none⟩=some (.slice aA n aB):=am ak.u J;have Z:=ai J
    by_cases ax:k<n
    ·have av:(k:Int)<(n:Int):=by omega
     obtain ⟨g,rfl,k3⟩:=ah.u k ax;have aJ:=am k3 J;clear V J k3;go_wp2;go_roundw
     case rel=>exact ⟨k+1,aj,by go_num,Z.u⟩
     case measure=>simp [intOf];omega
    have av:¬((k:Int)<(n:Int)):=aj;clear V J;go_wp2;go_roundw
    case rel=>exact ⟨i+1,aj,by go_num,U.u.trans (Z.u.mono U.u.size)⟩
    case measure=>simp [intOf];omega
  have au:¬((i:Int)<(I.length:Int)):=aj;clear D R;go_wp2;go_ret;exact ⟨rfl,U.u⟩
def hZ(base b:Nat)(A n:Nat)(w:af)(e:Ending)(w':af):Prop:=e=.returned (.bool true)/\∃lv ju jl us h,WS base w' b lv ju jl us h/\Below base w w'/\h.length<=n+4/\1<=us.length/\us.length<=A+1
theorem Tryz.infoPr:(Tryz.prog.info? 86).map (fun i=>(i.zero,i.size,i.bytes))=some (some (.agg #[.pointer none,.pointer none]),2,16):=by kernel_rfl
variable {g5 aV:Nat} {w5:af} {o:Obj}
theorem WS.push{ms}(D:WS base w b lv ju jl us ms)(Y:Below w.heap.size w W)(am:UR W u)(ac:∀k,US u k->w.heap.size<=k)(ae:∀k,u.I k->w.heap.size<=k)(O:(W.alloc o).grownBy w5 lv.ownBlock)(ak:w5.ownsRow base 86 2 (.slice (some ⟨g5,0,none⟩) (us.length+1) aV) (us.length+1) (us.flatMap OU++OU u)):
  WS base (w5.setCell ⟨b,0,none⟩ (.slice (some ⟨g5,0,none⟩) (us.length+1) aV)) b (.slice (some ⟨g5,0,none⟩) (us.length+1) aV) ju jl (us++[u]) ms/\Below base w (w5.setCell ⟨b,0,none⟩ (.slice (some ⟨g5,0,none⟩) (us.length+1) aV)):=by
 have b1:=Y.alloc Y.size o;have h1:=D.below b1;have au:UR (W.alloc o) u:=am.below (ba.alloc az o);have U:base<=w.heap.size:=by have:=D.low;have:=D.blk.lt;omega
 have V:aB w5 b #[lv,ju,jl] 31:=(O.block b h1.blk.lt (own_ne h1.l h1.blk ar)).trans h1.blk;obtain ⟨F,hF⟩:∃F,w5.setCell ⟨b,0,none⟩ (.slice (some ⟨g5,0,none⟩) (us.length+1) aV)=F:=⟨_,rfl⟩;have R:bI (fun k=>k=b\/lv.ownBlock=some k) (W.alloc o) F:=by rw [<-hF];exact (fM O (fun k J=> .inr J)).set (a:=⟨b,0,none⟩) (.inl rfl) _
 have ty:∀(g:Nat)(cs:Array ag)(T:TypeId)(f:Nat×Nat),(g=b\/lv.ownBlock=some g)->(W.alloc o).heap[g]? =some (Obj.cells cs T f)->T=31\/T=86:=fun g cs T f hs C=>by
  rcases hs with rfl|e
  ·have:=h1.blk;unfold aB at this;rw [this] at C
   cases C
   exact .inl rfl
  obtain ⟨av,Q⟩:=CX h1.l e;unfold aB at Q;rw [Q] at C
  cases C
  exact .inr rfl
 have keep:∀(v:fq),UR (W.alloc o) v->UR F v:=fun v hv=>hv.keep R (fun g O hs=>by
   obtain ⟨cs,T,Q,ah⟩:=hv.ty O;have:=ty g cs T _ hs Q
   rcases ah with rfl|rfl|rfl|rfl<;>simp at this)
  (fun g cs T f hs C al=>by
   rcases ty g cs T f hs C with rfl|rfl<;>exact absurd al (by unfold MD LT RT;decide))
 have key:∀(g:Nat)(cs:Array ag)(T:TypeId)(f:Nat×Nat),(W.alloc o).heap[g]? =some (Obj.cells cs T f)->T≠31->T≠86->F.heap[g]? =(W.alloc o).heap[g]? :=fun g cs T f C t1 t2=>R.block g (lt_of_some C) (fun hs=>by
  rcases ty g cs T f hs C with e|e
  ·exact t1 e
  exact t2 e)
 have ab:=bJ ak V ar 0 (.slice (some ⟨g5,0,none⟩) (us.length+1) aV);have Z:=V.set 0 (.slice (some ⟨g5,0,none⟩) (us.length+1) aV);rw [hF] at ab Z ⊢;refine ⟨⟨Z,D.low,by simpa using ab,ax h1.ls (fun g cs f _ C=>key g cs _ f C ar ar),ax h1.ks (fun g cs f _ C=>key g cs _ f C ar ar),fun v hv=> ?_,fun v hv=> ?_,?_,fun v hv=> ?_,fun m aj=>(h1.mrk m aj).frame (fun g cs f C=>key g cs _ f C ar ar),D.mks⟩,?_⟩
 ·rcases aT.1 hv with hv|hv
  ·exact keep v (h1.ur v hv)
  rw [aR] at hv;subst hv;exact keep v au
 ·rcases aT.1 hv with hv|hv
  ·exact D.lowu v hv
  rw [aR] at hv;subst hv;exact fun k J=>aL U (ac k J)
 ·refine List.pairwise_append.2 ⟨D.ap,an,fun v hv q ad k J ai=> ?_⟩;rw [aR] at ad;subst ad;have h1:=(D.ur v hv).lt J;have h2:=ac k ai;omega
 ·rcases aT.1 hv with hv|hv
  ·exact D.apk v hv
  rw [aR] at hv;subst hv;intro k J af;have h1:=(D.ks.lt k J).2;have h2:=ae k af;omega
 ·exact (b1.mono U).trans (R.below (aL U b1.size) (fun g O=>by
   rcases O with rfl|e
   ·exact D.low
   exact (D.l.lt g e).1))
def L7(base b:Nat)(n m:Nat)(r:Bool)(w:af)(e:Ending)(w':af):Prop:=e=.returned (.bool true)/\∃lv ju jl us h,WS base w' b lv ju jl us h/\Below base w w'/\h.length=m/\us.length=if r then n+1 else n
theorem Dz{ms}(C:WS base w b lv ju jl us ms)(s)(Y:Laid w)(o c)(D:fo s=.error (o,c)):
  Calls prog 44 #[.pointer (some ⟨b,0,none⟩),.string s] w (L7 base b us.length ms.length false w):=by
 have hc:=(nB D w).1;have O:=ai (LY s w o c D hc Y);have R:=ai (fun w'=>KU s w' c _ hc (nB D w').2.choose_spec);have H:=ai C;have ab:((c:Int) != 0)=true:=g8.2 aj;have ac:((c:Int)==0)=false:=by rw [bG];omega
 have Z:base<=w.heap.size:=by have:=C.low;have:=C.blk.lt;omega
 clear C D Y;go_enter func44,ntmps44;go_wp2_with fail;refine O.u.mono ?_;rintro e w1 ⟨rfl,U⟩;have I:=ai U;have Q:=ai (R.u w1);clear U O R;go_wp2_with fail;refine Q.u.mono ?_;rintro e ad ⟨rfl,V⟩;have J:=ai (I.u.trans (V.mono I.u.size));clear V Q;go_wp2;go_ret;exact ⟨rfl,_,_,_,_,_,H.u.below J.u,J.u.mono Z,rfl,rfl⟩
theorem wz{ms}(D:WS base w b lv ju jl us ms)(s)(am:Laid w)(ts)(Y:fo s=.ok ts)(a3:us.length+1<=8796093022208):
  Calls prog 44 #[.pointer (some ⟨b,0,none⟩),.string s] w (L7 base b us.length ms.length true w):=by
 obtain ⟨i0,aP,aS,aT,aU⟩:=bH Tryz.infoPr;obtain ⟨aW,aX,rfl⟩:=ay D.l;have ac:=ai (OT Rt KQ xN s w ts Y am);have ae:=ai (fun w'=>OE s w' (XS ts (fun k=>w'.heap.size<=k)) (fun bm w w' D k=>D.kd k) (wy Y w'));have H:=ai D;have aZ:base<=w.heap.size:=by have:=D.low;have:=D.blk.lt;omega
 clear D Y am;go_enter func44,ntmps44;go_wp2_with fail;refine ac.u.mono ?_;rintro e w1 ⟨mv,Z,bm,tl,x,rfl,av,ap,az,R,aQ⟩;have ab:=ai R;have ad:=ai (ae.u w1);have aw:=R.size;have aJ:=ai (show IE w1 x mv Z (.slice none 0 0) ts [] from ⟨av,⟨bm,tl,ap⟩,az⟩);clear R ac ae av ap az;go_wp2_with fail;refine ad.u.mono ?_;rintro e C ⟨ak,y,rfl,al,aA,U,aR⟩;have O:=ai (ab.u.trans (U.mono ab.u.size));have aK:=ai (show UR C ⟨x,y,ak,mv,Z,.slice none 0 0,.slice none 0 0,ts,[],[],fun k=>w1.heap.size<=k/\k<C.heap.size⟩ from ⟨aJ.u.keep (S:=fun _=>False) (.of_below U) (fun _ _ e=>e) (fun _ _ _ _ e=>e.elim),⟨al,aA.fin,fun k J=>J.2,an⟩,AN,fun _ D=>by cases D⟩);have I:=ai (H.u.below O.u);obtain ⟨c0,c1,c2⟩:=three I.u.blk;have aN:=I.u.blk.fz;have aY:=I.u.blk.lt;have ah:=ai (I.u.l.alloc (jT (some ⟨x,0,none⟩) (some ⟨y,0,none⟩)));have aG:=ai (bE (B:=C.heap.size) (cs:=#[.pointer (some ⟨x,0,none⟩),.pointer (some ⟨y,0,none⟩)]) (t:=86) (fr:=(0,0)) (aB.new C _ _));have aH:=ai (show ∀u∈([.pointer (some ⟨x,0,none⟩),.pointer (some ⟨y,0,none⟩)]:List ag),u.oneCell'=true from by
  intro u ax;simp only [bA,fG,fH] at ax
  rcases ax with rfl|rfl<;>rfl)
 have aI:=ai (show us.length+1<=maxLen from by unfold maxLen;omega);have aD:=ai (show (us.length+1)*16<=140737488355328 from aj);have aC:=ai (show base<=(C.alloc (jT (some ⟨x,0,none⟩) (some ⟨y,0,none⟩))).heap.size from by have:=O.u.size;simp;omega);have aE:=ai (show (C.alloc (jT (some ⟨x,0,none⟩) (some ⟨y,0,none⟩))).heap.size=C.heap.size+1 from an);clear U ad al aA;go_wp2_with (at_builtin;go_must (refine bD _ rfl _ _ 27 rfl base 86 i0 _ 2 16 underlying27 aP aS aT aU rfl ar (.slice aW us.length aX) us.length (us.flatMap OU) rfl ah.u ⟨C.heap.size,0,none⟩ 1 1 [.pointer (some ⟨x,0,none⟩),.pointer (some ⟨y,0,none⟩)] rfl rfl aG.u aH.u ar aI.u aD.u aC.u (C.heap.size+1) aE.u ?hrest))
 case hrest=>
  intro g5 aV w5 au V aO a2;have h1:=H.u.below O.u;have Q:aB w5 b _ 31:=(V.block b aM (own_ne ah.u (I.u.blk.alloc _) ar)).trans (I.u.blk.alloc _);obtain ⟨a4,a5,a6⟩:=three Q;have a7:=Q.fz;have af:=ai (WS.push (u:=⟨x,y,ak,mv,Z,.slice none 0 0,.slice none 0 0,ts,[],[],fun k=>w1.heap.size<=k/\k<C.heap.size⟩) H.u O.u aK.u (fun k J=>by
   rcases J with (e|⟨n,c,e⟩)|(e|⟨n,c,e⟩)
   ·subst e;exact aQ
   ·cases e
   ·subst e;exact aL aw aR
   cases e) (fun k J=>aL aw J.1) V au)
  clear au V aO h1 Q c0 c1 c2 aN;go_wp2;go_ret;exact ⟨rfl,_,_,_,_,_,af.u.1,af.u.2,rfl,an⟩
def iO(c:Int)(n:Nat):Nat:=(if c<0 then (-(c+1)).toNat else c.toNat) % n
theorem AQ(c)(h:0<n):iO c n<n:=Nat.mod_lt _ h
theorem AR(c:Int)(n:Nat)(w)(h0: -9223372036854775808<=c)(h1:c<=9223372036854775807)(C:0<n)(Q:n<=9223372036854775807):
  Calls prog 45 #[.int .i64 c,.int .i64 n] w fun e w'=>e=.returned (.int .i64 (iO c n))/\w'=w:=by
 unfold iO;have R:(n:Int)≠0:=aj
 by_cases hc:c<0
 ·rw [if_pos hc];have e1:IntKind.i64.wrap (c+1)=c+1:=pR _ ⟨aj,aj⟩;have O:IntKind.i64.wrap (-(c+1))= -(c+1):=pR _ ⟨aj,aj⟩;obtain ⟨m,J⟩:∃m:Nat,-(c+1)=m:=⟨(-(c+1)).toNat,aj⟩;have D:IntKind.i64.wrap ((m % n:Nat):Int)=((m % n:Nat):Int):=pR _ ⟨aj,by have:=Nat.mod_lt m C;omega⟩;have I:(m:Int).tmod (n:Int)=((m % n:Nat):Int):=rfl;rw [J,jF];go_enter func45,ntmps45;go_wp2;go_ret;exact ⟨rfl,rfl⟩
 ·rw [if_neg hc];obtain ⟨m,rfl⟩:∃m:Nat,c=m:=⟨c.toNat,aj⟩;have D:IntKind.i64.wrap ((m % n:Nat):Int)=((m % n:Nat):Int):=pR _ ⟨aj,by have:=Nat.mod_lt m C;omega⟩;have I:(m:Int).tmod (n:Int)=((m % n:Nat):Int):=rfl;rw [jF];go_enter func45,ntmps45;go_wp2;go_ret;exact ⟨rfl,rfl⟩
theorem L8{ms}(J:WS base w b lv ju jl us ms)(ah:1<=us.length)(ee s rr ww)(ag:us.length+1<=8796093022208)(R:Laid w):
  Calls prog 15 #[.pointer (some ⟨b,0,none⟩),.agg #[.int .i64 2,.int .i64 ee,.string s,.string rr,.string ww]] w (hZ base b us.length ms.length w):=by
 have D:=(aw w.heap.size w).alloc az (.cells #[.int .i64 2,.int .i64 ee,.string s,.string rr,.string ww] 34);have O:=J.below D;have U:=R.below D R.lt;have C:Calls prog 44 #[.pointer (some ⟨b,0,none⟩),.string s] (w.alloc (.cells #[.int .i64 2,.int .i64 ee,.string s,.string rr,.string ww] 34)) fun e w'=>hZ base b us.length ms.length w e w':=by
  have ab:base<=w.heap.size:=by have:=J.low;have:=J.blk.lt;omega
  cases ad:fo s with
  |error er=>
   obtain ⟨o,c⟩:=er;refine (Dz O s U o c ad).mono fun e w' ⟨Q,lv,ju,jl,Y,V,h1,h2,af,I⟩=>⟨Q,lv,ju,jl,Y,V,h1,(D.mono ab).trans h2,aj,by simp at I;omega,by simp at I;omega⟩
  |ok ts=>
   refine (wz O s U ts ad ag).mono fun e w' ⟨Q,lv,ju,jl,Y,V,h1,h2,af,I⟩=>⟨Q,lv,ju,jl,Y,V,h1,(D.mono ab).trans h2,aj,by simp at I;omega,by simp at I;omega⟩
 have Z:=ai C;clear J O U R C D;go_enter func15,ntmps15;go_wp2_with fail;refine Z.u.mono ?_;rintro e ak ac;have ae:=ai ac;obtain ⟨rfl,_⟩:=ac;clear Z;go_wp2;go_ret;exact ae.u
theorem mZ{ms}(D:WS base w b lv ju jl us ms)(Z:1<=us.length)(kd ee s rr ww)(O:kd=3\/kd=4\/kd=5)(hs:s.size<=maxLen)(av: -9223372036854775808<=ee)(ax:ee<=9223372036854775807)(aN:us.length+1<=8796093022208)(Q:Laid w)(Y:kO w)(h1:1<w.heap.size):
  Calls prog 15 #[.pointer (some ⟨b,0,none⟩),.agg #[.int .i64 kd,.int .i64 ee,.string s,.string rr,.string ww]] w (hZ base b us.length ms.length w):=by
 obtain ⟨aO,aD,rfl⟩:=ay D.l;have V:iO ee us.length<us.length:=AQ ee Z;obtain ⟨g,c,e1,hc⟩:=bi OU 2 (fun _=>rfl) D.l (iO ee us.length) us[iO ee us.length] (aG V);simp only [aI,cz] at e1;obtain ⟨rfl,rfl⟩:=e1;have hi:us[iO ee us.length]? =some us[iO ee us.length]:=aG V;generalize us[iO ee us.length]=u at*;have ac:=ai (fun w'=>AR ee us.length w' av ax aj aj);generalize iO ee us.length=i at*;have J:=(aw w.heap.size w).alloc az (lP kd ee s rr ww);have I:=ai (aB.new w #[.int .i64 kd,.int .i64 ee,.string s,.string rr,.string ww] 34);have af:=ai (am (show w.cell? ⟨g,i*2,none⟩=some (.pointer (some ⟨u.x,0,none⟩)) from hc 0 _ aj rfl) J);have ag:=ai (am (show w.cell? ⟨g,i*2+1,none⟩=some (.pointer (some ⟨u.y,0,none⟩)) from hc 1 _ aj rfl) J);have ad:=ai (am (three D.blk).1 J);have R:=ai J;have ap:base<=w.heap.size:=by have:=D.low;have:=D.blk.lt;omega
 have C:=ai (fun W' (k:Below w.heap.size w W')=>(AP (D.below k) hi kd ee s rr ww hs (Q.below k Q.lt) (Y.below k aj) (by have:=k.size;omega)).mono (fun e w' ⟨au,ar⟩=>show hZ base b us.length ms.length w e w' from by
  obtain ⟨⟨u',aC⟩,al⟩:=ar;exact ⟨au,_,_,_,_,_,aC,(k.mono ap).trans al,aj,by simpa using Z,an⟩))
 clear D hc hi Q Y J;have aQ:(kd==1)=false:=by rcases O with rfl|rfl|rfl<;>rfl
 have aR:(kd==2)=false:=by rcases O with rfl|rfl|rfl<;>rfl
 have aA:((kd==3)=true)\/((kd==3)=false/\(kd==4)=true)\/((kd==3)=false/\(kd==4)=false/\(kd==5)=true):=by rcases O with rfl|rfl|rfl<;>decide
 clear O
 rcases aA with ab|⟨ab,aE⟩|⟨ab,aE,aP⟩
 all_goals
  go_enter func15,ntmps15;go_wp2_with fail;generalize ak:w.alloc (lP kd ee s rr ww)=W at*;have aM:=I.u.lt;have aU:¬(w.heap.size=W.heap.size):=aj;have aW:¬(W.heap.size=w.heap.size):=aj;clear ak;have aH:W.cell? ⟨w.heap.size,1,none⟩=some (.int .i64 ee):=I.u.cell rfl;obtain ⟨aX,aY,aZ,a5⟩:W.cell? ⟨w.heap.size,0,none⟩=some (.int .i64 kd)/\W.cell? ⟨w.heap.size,2,none⟩=some (.string s)/\W.cell? ⟨w.heap.size,3,none⟩=some (.string rr)/\W.cell? ⟨w.heap.size,4,none⟩=some (.string ww):=⟨I.u.cell rfl,I.u.cell rfl,I.u.cell rfl,I.u.cell rfl⟩;have aJ:=af.u;have aK:=ag.u;have ah:=ad.u;have aL:(i:Int)<(us.length:Int):=aj;have n1:=bj W _ aH;have n2:=bj W _ aJ;have aS:=bj W _ aK;have aT:=bj W _ ah
  go_region_held3 (fun w'=>w'.cell? ⟨b,0,none⟩=some (.slice (some ⟨g,0,none⟩) us.length aD)/\w'.cell? ⟨w.heap.size,1,none⟩=some (.int .i64 ee)/\w'.cell? ⟨g,i*2,none⟩=some (.pointer (some ⟨u.x,0,none⟩))/\w'.cell? ⟨g,i*2+1,none⟩=some (.pointer (some ⟨u.y,0,none⟩))) (go_keep)
   ((go_at_call 45;refine (ac.u _).mono ?_;rintro e w' ⟨rfl,rfl⟩))
  all_goals
   go_wp2_with fail;refine (C.u _ ((R.u.alloc R.u.size _).drew)).mono ?_;rintro e a6 U;have ae:=ai U;obtain ⟨rfl,_⟩:=U;clear C;go_wp2;go_ret;exact ae.u
structure St where
 kd:Int
 ee:Int
 s:ae
 rr:ae
 ww:ae
structure DA(x:St):Prop where
 e0: -9223372036854775808<=x.ee
 e1:x.ee<=9223372036854775807
 s:x.s.size<=maxLen
 r:x.rr.size<=maxLen
 w:x.ww.size<=maxLen
structure Env(w:af):Prop where
 laid:Laid w
 max:kO w
 pow:pm w
 lt:4<w.heap.size
variable {B:Nat}
theorem Env.below(C:Env w)(k:Below B w w')(D:4<B):Env w':=⟨C.laid.below k aj,C.max.below k aj,C.pow.below k aj,by have:=k.size;have:=C.lt;omega⟩
def QA(ks:List Int):Prop:=∀(base b:Nat) (lv ju jl:ag) (us:List fq) (h:List (ag×Nat)) (w:af) (x:St),WS base w b lv ju jl us h->1<=us.length->us.length+1<=8796093022208->h.length+4<=8796093022208->ks.any (fun k=>x.kd==k)=true->DA x->Env w->4<base->
 Calls prog 15 #[.pointer (some ⟨b,0,none⟩),.agg #[.int .i64 x.kd,.int .i64 x.ee,.string x.s,.string x.rr,.string x.ww]] w (hZ base b us.length h.length w)
def HH(w:af)(v:ag)(n:Nat):Prop:=(v=.slice none 0 0/\n=0)\/∃(h:Addr)(c:Nat)(z:Nat->St),v=.slice (some h) n c/\n<=c/\∀j,j<n->DA (z j)/\w.cell? (h.add (j*5))=some (.int .i64 (z j).kd)/\w.cell? ⟨(h.add (j*5)).block,(h.add (j*5)).off+1,none⟩=some (.int .i64 (z j).ee)/\w.cell? ⟨(h.add (j*5)).block,(h.add (j*5)).off+2,none⟩=some (.string (z j).s)/\w.cell? ⟨(h.add (j*5)).block,(h.add (j*5)).off+3,none⟩=some (.string (z j).rr)/\w.cell? ⟨(h.add (j*5)).block,(h.add (j*5)).off+4,none⟩=some (.string (z j).ww)
variable {j:Nat}
theorem HH.cell{ad}(h:HH w (.slice (some ad) n c) n)(k:Below w.heap.size w w')(I:j<n):∃x:St,DA x/\w'.cell? (ad.add (j*5))=some (.int .i64 x.kd)/\w'.cell? ⟨(ad.add (j*5)).block,(ad.add (j*5)).off+1,none⟩=some (.int .i64 x.ee)/\w'.cell? ⟨(ad.add (j*5)).block,(ad.add (j*5)).off+2,none⟩=some (.string x.s)/\w'.cell? ⟨(ad.add (j*5)).block,(ad.add (j*5)).off+3,none⟩=some (.string x.rr)/\w'.cell? ⟨(ad.add (j*5)).block,(ad.add (j*5)).off+4,none⟩=some (.string x.ww):=by
 rcases h with ⟨h,_⟩|⟨O,Q,z,e,_,J⟩
 ·cases h
 simp only [aI,aK,cz] at e;obtain ⟨rfl,rfl⟩:=e;obtain ⟨h0,h1,h2,A,C,D⟩:=J j I;exact ⟨z j,h0,am h1 k,am h2 k,am A k,am C k,am D k⟩
def AU:ae:=⟨#[116,121,112,101,32,117,115,101,114,32,123,32,125,32,116,121,112,101,32,103,114,111,117,112,32,123,32,109,101,109,98,101,114,58,32,91,117,115,101,114,44,32,103,114,111,117,112,35,109,101,109,98,101,114,93,59,32,125,32,116,121,112,101,32,100,111,99,32,123,32,112,97,114,101,110,116,58,32,91,100,111,99,93,59,32,111,119,110,101,114,58,32,91,117,115,101,114,93,59,32,98,97,110,110,101,100,58,32,91,117,115,101,114,44,32,117,115,101,114,42,93,59,32,101,100,105,116,111,114,58,32,91,117,115,101,114,44,32,103,114,111,117,112,35,109,101,109,98,101,114,93,32,124,32,111,119,110,101,114,32,124,32,112,97,114,101,110,116,46,101,100,105,116,111,114,59,32,118,105,101,119,101,114,58,32,40,91,117,115,101,114,42,93,32,124,32,101,100,105,116,111,114,41,32,45,32,98,97,110,110,101,100,59,32,125]⟩
theorem OX:∃ts,fo AU=.ok ts:=by
 have C:(match fo AU with| .ok _=>true| .error _=>false)=true:=au
 cases D:fo AU with
 |ok ts=>exact ⟨ts,rfl⟩
 |error e=>rw [D] at C;cases C
def L9 (C:aF:=by
 go_wp2_with fail
 go_region
 all_goals
  go_wp2_with fail;exact ⟨⟨k+1,aj,by go_num,by rw [UA.u];simp,TD.u.drew⟩,by simp [intOf];omega⟩):aF:=C
theorem HV(ks)(aR:QA ks)(v n w0 w)(al:HH w0 v n)(bA:n<=2199023255488)(g c)(bz:ks.length<=100)(aU:∀k (bq:k<ks.length),w.cell? ⟨g,k,none⟩=some (.int .i64 ks[k]))(ab:Below w0.heap.size w0 w)(Q:Env w)(bx:4<w0.heap.size):
  Calls prog 16 #[v,.slice (some ⟨g,0,none⟩) ks.length c] w fun e w'=>e=.returned (.bool true)/\Below w0.heap.size w0 w':=by
 have hv:∃a c,v=.slice a n c/\(0<n->∃af,a=some af):=by
  rcases al with ⟨rfl,rfl⟩|⟨af,c,z,rfl,h1,_⟩
  ·exact ⟨_,_,rfl,aj⟩
  exact ⟨_,_,rfl,fun _=>⟨_,rfl⟩⟩
 obtain ⟨bH,rc,rfl,aX⟩:=hv;obtain ⟨ts,aY⟩:=OX;have ah:=(aw w.heap.size w).alloc az (.cells #[.slice none 0 0,.slice none 0 0,.slice none 0 0] 31);have aQ:WS w.heap.size (w.alloc (.cells #[.slice none 0 0,.slice none 0 0,.slice none 0 0] 31)) w.heap.size (.slice none 0 0) (.slice none 0 0) (.slice none 0 0) [] []:=⟨aB.new w _ _,cm _,bN,bN,bN,an,an,List.Pairwise.nil,an,an,an⟩;have ac:=ai (wz aQ AU (Q.laid.below ah Q.laid.lt) ts aY an);have ba:=ai al;have bb:=ai aX;have aN:=ai Q;have bc:=ai aR;have aM:=ai ab;have a6:=ai ah;have a7:=ai aU;have au:=Q.lt;have a0:=ab.size;unfold AU at ac;clear al aX Q aR ab ah aU aQ aY;go_enter func16,ntmps16;go_wp2_with fail;refine (ak ac).mono ?_;rintro e w1 ⟨rfl,lv,ju,jl,us,J,I,aS,av,ax⟩;simp only [List.length_nil,if_true] at av ax;obtain ⟨bF,bG,rfl⟩:=ay I.l;obtain ⟨c0,c1,c2⟩:=three I.blk;have aA:us.length=1:=by simpa using ax
 have aO:=ai aA;rw [aA] at c0;have a3:=ai (a6.u.trans aS);have be:=ai I;have a9:=ai av;clear I aS ac av ax aA;go_wp2_with fail
 go_loopw [7] (fun u wr=>∃(i:Nat) (lv ju jl:ag) (us:List fq) (J:List (ag×Nat)),i<=n/\u=.int .i64 i/\Below w.heap.size w wr/\WS w.heap.size wr w.heap.size lv ju jl us J/\Hid (1<=us.length/\us.length<=i+1/\J.length<=4*i)) (fun u _=>n-(intOf u).toNat)
 case atStart=>exact ⟨0,_,_,_,us,J,aj,rfl,a3.u,be.u,ai ⟨by rw [aO.u];omega,by rw [aO.u];omega,by rw [a9.u];omega⟩⟩
 case round=>
  clear c0 c1 c2;obtain ⟨i,lv,ju,jl,us,J,hi,rfl,Y,I,O⟩:=hrel;obtain ⟨U,bn⟩:∃U,U=wr:=⟨_,rfl⟩;subst bn;have R:=ai Y
  by_cases bp:i<n
  ·have bo:(i:Int)<(n:Int):=by omega
   obtain ⟨af,rfl⟩:=bb.u aj;have a5:=ai (aM.u.trans (Y.mono a0));obtain ⟨x,a1,Z,aG,aH,aI,aJ⟩:=ba.u.cell a5.u bp;have bg:=ai I;have bh:=ai a1;have aP:=ai Z;have bi:=ai aG;have bj:=ai aH;have bk:=ai aI;have bl:=ai aJ;clear Y I a1 Z aG aH aI aJ;go_wp2_with fail
   go_loopw [8,9] (fun u8 aD bw=>∃k:Nat,k<=ks.length/\aD=.int .i64 k/\u8=.bool ((ks.take k).any fun q=>x.kd==q)/\Below U.heap.size U bw) (fun _ aD _=>ks.length-(intOf aD).toNat)
   case atStart=>exact ⟨0,aj,rfl,rfl,aw _ _⟩
   case round=>
    obtain ⟨k,bq,rfl,rfl,D⟩:=hrel;have TD:=ai D
    by_cases aW:k<ks.length
    ·have br:(k:Int)<(ks.length:Int):=by omega
     have Z:=am aP.u D;have bK:wr.cell? ⟨g,k,none⟩=some (.int .i64 ks[k]):=am (am (a7.u k aW) R.u) D;have UA:=ai (show ((ks.take (k+1)).any fun q=>x.kd==q)=(((ks.take k).any fun q=>x.kd==q)||(x.kd==ks[k])) from by rw [dS aW,List.any_append];simp);generalize ((ks.take k).any fun q=>x.kd==q)=t0 at*;generalize ks[k]=bB at*;clear D
     cases t0
     ·exact L9
     exact L9
    have br:¬((k:Int)<(ks.length:Int)):=aj;rw [eh aj];have Z:=am aP.u D;have aG:=am bi.u D;have aH:=am bj.u D;have aI:=am bk.u D;have aJ:=am bl.u D;have ad:=ai (R.u.trans (D.mono R.u.size));have V:=bg.u.below D
    cases ap:ks.any fun q=>x.kd==q
    ·have ae:=ai V;clear D ap V;go_wp2;go_roundw
     case rel=>exact ⟨i+1,_,_,_,us,J,aj,by go_num,ad.u,ae.u,by
      obtain ⟨l1,bu,bv⟩:=ak O;exact ai ⟨l1,aj,aj⟩⟩
     case measure=>simp [intOf];omega
    have aK:=ai (bc.u w.heap.size w.heap.size _ _ _ us J wr x V (ak O).1 (by have:=(ak O).2.1;omega) (by have:=(ak O).2.2;omega) ap bh.u (aN.u.below ad.u au) au);clear D ap V;go_wp2_with fail;refine aK.u.mono ?_;rintro e bI ⟨rfl,bE,bD,bC,aE,a2,aC,aT,bs,aZ,bt⟩;have B2:=ai (ad.u.trans aT);have aL:=ai (Hz aC (by have:=(ak O).2.2;omega) (aN.u.below B2.u au).pow ER);have ae:=ai aC;have a8:=ai (show 1<=aE.length/\aE.length<=i+1+1/\a2.length<=4*(i+1) from by
     obtain ⟨l1,bu,bv⟩:=ak O;exact ⟨aZ,aj,aj⟩)
    clear aC aT bs aZ bt aK;go_wp2_with fail;refine aL.u.mono ?_;rintro e bJ ⟨rfl,ar⟩;have a4:=ai (B2.u.trans (ar.mono B2.u.size));have bf:=ai (ae.u.below ar);clear ar aL;go_wp2;go_roundw
    case rel=>exact ⟨i+1,_,_,_,aE,a2,aj,by go_num,a4.u,bf.u,a8⟩
    case measure=>simp [intOf];omega
  have bo:¬((i:Int)<(n:Int)):=aj;clear Y I;go_wp2;go_ret;exact ⟨rfl,aM.u.trans (R.u.mono a0)⟩
theorem Ma{ms}(J:WS base w b lv ju jl us ms)(av:1<=us.length)(kd ee s rr ww)(D:kd=6\/kd=7\/kd=8)(ap: -9223372036854775808<=ee)(ar:ee<=9223372036854775807)(aM:us.length+1<=8796093022208)(Q:∀W',Below w.heap.size w W'->∀u∈us,Calls prog 47 #[.pointer (some ⟨b,0,none⟩),.agg #[.pointer (some ⟨u.x,0,none⟩),.pointer (some ⟨u.y,0,none⟩)],.agg #[.int .i64 kd,.int .i64 ee,.string s,.string rr,.string ww]] W' (hZ base b us.length ms.length W')):
  Calls prog 15 #[.pointer (some ⟨b,0,none⟩),.agg #[.int .i64 kd,.int .i64 ee,.string s,.string rr,.string ww]] w (hZ base b us.length ms.length w):=by
 obtain ⟨aN,ax,rfl⟩:=ay J.l;have V:iO ee us.length<us.length:=AQ ee av;obtain ⟨g,c,e1,hc⟩:=bi OU 2 (fun _=>rfl) J.l (iO ee us.length) us[iO ee us.length] (aG V);simp only [aI,cz] at e1;obtain ⟨rfl,rfl⟩:=e1;have hi:us[iO ee us.length]? =some us[iO ee us.length]:=aG V;generalize us[iO ee us.length]=u at*;have Z:=ai (fun w'=>AR ee us.length w' ap ar aj aj);generalize iO ee us.length=i at*;have O:=(aw w.heap.size w).alloc az (lP kd ee s rr ww);have I:=ai (aB.new w #[.int .i64 kd,.int .i64 ee,.string s,.string rr,.string ww] 34);have ad:=ai (am (show w.cell? ⟨g,i*2,none⟩=some (.pointer (some ⟨u.x,0,none⟩)) from hc 0 _ aj rfl) O);have ae:=ai (am (show w.cell? ⟨g,i*2+1,none⟩=some (.pointer (some ⟨u.y,0,none⟩)) from hc 1 _ aj rfl) O);have ab:=ai (am (three J.blk).1 O);have R:=ai O;have al:base<=w.heap.size:=by have:=J.low;have:=J.blk.lt;omega
 have C:=ai (fun W' (k:Below w.heap.size w W')=>(Q W' k u (bx hi)).mono (fun e w' ⟨an,lv,ju,jl,aJ,aC,h1,h2,ag,ah⟩=>show hZ base b us.length ms.length w e w' from ⟨an,lv,ju,jl,aJ,aC,h1,(k.mono al).trans h2,ag,ah⟩));clear J hc hi O Q;have aS:(kd==1)=false:=by rcases D with rfl|rfl|rfl<;>rfl
 have aT:(kd==2)=false:=by rcases D with rfl|rfl|rfl<;>rfl
 have aO:(kd==3)=false:=by rcases D with rfl|rfl|rfl<;>rfl
 have aP:(kd==4)=false:=by rcases D with rfl|rfl|rfl<;>rfl
 have aQ:(kd==5)=false:=by rcases D with rfl|rfl|rfl<;>rfl
 have au:((kd==6)=true)\/((kd==6)=false/\(kd==7)=true)\/((kd==6)=false/\(kd==7)=false/\(kd==8)=true):=by rcases D with rfl|rfl|rfl<;>decide
 clear D
 rcases au with Y|⟨Y,aA⟩|⟨Y,aA,aR⟩
 all_goals
  go_enter func15,ntmps15;go_wp2_with fail;generalize ak:w.alloc (lP kd ee s rr ww)=W at*;have aL:=I.u.lt;have aX:¬(w.heap.size=W.heap.size):=aj;have aY:¬(W.heap.size=w.heap.size):=aj;clear ak;have aD:W.cell? ⟨w.heap.size,1,none⟩=some (.int .i64 ee):=I.u.cell rfl;obtain ⟨aZ,a5,a6,a7⟩:W.cell? ⟨w.heap.size,0,none⟩=some (.int .i64 kd)/\W.cell? ⟨w.heap.size,2,none⟩=some (.string s)/\W.cell? ⟨w.heap.size,3,none⟩=some (.string rr)/\W.cell? ⟨w.heap.size,4,none⟩=some (.string ww):=⟨I.u.cell rfl,I.u.cell rfl,I.u.cell rfl,I.u.cell rfl⟩;have aE:=ad.u;have aH:=ae.u;have af:=ab.u;have aK:(i:Int)<(us.length:Int):=aj;have n1:=bj W _ aD;have n2:=bj W _ aE;have aU:=bj W _ aH;have aW:=bj W _ af
  go_region_held3 (fun w'=>w'.cell? ⟨b,0,none⟩=some (.slice (some ⟨g,0,none⟩) us.length ax)/\w'.cell? ⟨w.heap.size,1,none⟩=some (.int .i64 ee)/\w'.cell? ⟨g,i*2,none⟩=some (.pointer (some ⟨u.x,0,none⟩))/\w'.cell? ⟨g,i*2+1,none⟩=some (.pointer (some ⟨u.y,0,none⟩))) (go_keep)
   ((go_at_call 45;refine (Z.u _).mono ?_;rintro e w' ⟨rfl,rfl⟩))
  all_goals
   go_wp2_with fail;refine (C.u _ ((R.u.alloc R.u.size _).drew)).mono ?_;rintro e a8 U;have ac:=ai U;obtain ⟨rfl,_⟩:=U;clear C;go_wp2;go_ret;exact ac.u
end Go.Proofs.YtlbpnlngckgcbaaGreatDoor
namespace Go.Proofs.YtlbpnlngckgcbaaGreatDoor
open Go.ChangeShapes Go.WideShapes Go.RowKit
theorem RU:Tryz.prog.cellsOf 3=1:=by kernel_rfl
theorem RW:Tryz.prog.cellsOf 9=1:=by kernel_rfl
theorem yg:Tryz.prog.cellsOf 34=5:=by kernel_rfl
theorem OY:Tryz.prog.bytesOf 34=64:=by kernel_rfl
theorem OZ{n}(C:(Lit.int .i64 n).wf=true): -9223372036854775808<=n/\n<=9223372036854775807:=by
 simp only [Lit.wf,bO,mA] at C;have h1:IntKind.i64.min= -9223372036854775808:=ar;have h2:IntKind.i64.max=9223372036854775807:=ar;rw [h1,h2] at C;exact C
variable {H:Type} {W:World}
theorem O0{enc:TypeId×Value->H}{fuel cs}{x:DataW H×List MemPlace}(V:DataW.trod enc Tryz.prog W 0 (fun _=>true) true fuel 34 cs=some x):
  ∃st:St,DA st/\cs=[.int .i64 st.kd,.int .i64 st.ee,.string st.s,.string st.rr,.string st.ww]/\x.2=[]:=by
 obtain ⟨xs,k,ai,Z,R,Y,h⟩:=DataW.trod_struct Tryz.underlying34 V;rw [yg] at R
 match xs,Y,cs,R with
 | [y0,y1,y2,y3,y4],_,[v0,v1,v2,v3,v4],_=>
  have g0:=h 0 _ rfl;have A:=h 1 _ rfl;have C:=h 2 _ rfl;have D:=h 3 _ rfl;have I:=h 4 _ rfl;simp only [List.getElem_toArray,List.getElem_cons_zero,List.getElem_cons_succ] at g0 A C D I;simp only [RU,RW,mm,pS,List.take_succ_cons,List.take_zero,List.getElem?_cons_zero,List.getElem?_cons_succ] at g0 A C D I;obtain ⟨ab,e0,f0,aj⟩:=DataW.trod_int Tryz.underlying3 g0;obtain ⟨n1,e1,f1,ae⟩:=DataW.trod_int Tryz.underlying3 A;obtain ⟨n2,J,f2,af⟩:=DataW.trod_string Tryz.underlying9 C;obtain ⟨ac,O,f3,r3⟩:=DataW.trod_string Tryz.underlying9 D;obtain ⟨ad,Q,f4,ah⟩:=DataW.trod_string Tryz.underlying9 I;simp only [ke,gL] at e0 e1 J O Q;subst e0 e1 J O Q;have U:=OZ ae;refine ⟨⟨ab,n1,n2,ac,ad⟩,⟨U.1,U.2,af,r3,ah⟩,rfl,?_⟩;rw [Z,f0,f1,f2,f3,f4]
  rfl
theorem RX{enc:TypeId×Value->H}{a0 RY TG d p}(I:DataW.Trod enc Tryz.prog W 0 (fun _=>true) true 36 (.slice a0 RY TG) d p):
  ∃n,HH W (.slice a0 RY TG) n/\(∀x∈p,x.block<W.heap.size)/\((d=.nil/\n=0)\/∃el am,d=.slice el am/\el.length=n):=by
 obtain ⟨fuel,ab⟩:=I
 rcases Deep.open_slice Tryz.underlying36 ab with ⟨O,D⟩|⟨a,len,cap,m,n,ap,Q,O,_,hl,aw,V,D,Z⟩
 ·simp only [Value.cells,List.toList_toArray,ke,gL,aI] at O;simp only [hA] at D;obtain ⟨rfl,rfl,rfl⟩:=O;obtain ⟨rfl,rfl⟩:=D;exact ⟨0,.inl ⟨rfl,rfl⟩,an,.inl ⟨rfl,rfl⟩⟩
 ·simp only [Value.cells,List.toList_toArray,ke,gL,aI] at O;simp only [hA] at D;obtain ⟨rfl,rfl,rfl⟩:=O;obtain ⟨rfl,rfl⟩:=D;simp only [if_true] at V;subst V;have each:∀i,i<m->∃st:St,DA st/\W.cell? (a.add (i*5))=some (.int .i64 st.kd)/\W.cell? ⟨(a.add (i*5)).block,(a.add (i*5)).off+1,none⟩=some (.int .i64 st.ee)/\W.cell? ⟨(a.add (i*5)).block,(a.add (i*5)).off+2,none⟩=some (.string st.s)/\W.cell? ⟨(a.add (i*5)).block,(a.add (i*5)).off+3,none⟩=some (.string st.rr)/\W.cell? ⟨(a.add (i*5)).block,(a.add (i*5)).off+4,none⟩=some (.string st.ww)/\Q i=[]:=fun i hi=>by
   obtain ⟨ar,h1,h2⟩:=Z i hi;rw [yg] at h1;obtain ⟨_,av,J⟩:=World.cells?_some h1;obtain ⟨st,ok,rfl,ad⟩:=O0 h2;exact ⟨st,ok,J 0 aj,J 1 aj,J 2 aj,J 3 aj,J 4 aj,ad⟩
  have ac:∃Y:St,True:=⟨⟨0,0,⟨#[]⟩,⟨#[]⟩,⟨#[]⟩⟩,trivial⟩;obtain ⟨Y,_⟩:=ac;have ch:∃z:Nat->St,∀i,i<m->DA (z i)/\W.cell? (a.add (i*5))=some (.int .i64 (z i).kd)/\W.cell? ⟨(a.add (i*5)).block,(a.add (i*5)).off+1,none⟩=some (.int .i64 (z i).ee)/\W.cell? ⟨(a.add (i*5)).block,(a.add (i*5)).off+2,none⟩=some (.string (z i).s)/\W.cell? ⟨(a.add (i*5)).block,(a.add (i*5)).off+3,none⟩=some (.string (z i).rr)/\W.cell? ⟨(a.add (i*5)).block,(a.add (i*5)).off+4,none⟩=some (.string (z i).ww)/\Q i=[]:=by
   have:∀i,∃st:St,i<m->DA st/\W.cell? (a.add (i*5))=some (.int .i64 st.kd)/\W.cell? ⟨(a.add (i*5)).block,(a.add (i*5)).off+1,none⟩=some (.int .i64 st.ee)/\W.cell? ⟨(a.add (i*5)).block,(a.add (i*5)).off+2,none⟩=some (.string st.s)/\W.cell? ⟨(a.add (i*5)).block,(a.add (i*5)).off+3,none⟩=some (.string st.rr)/\W.cell? ⟨(a.add (i*5)).block,(a.add (i*5)).off+4,none⟩=some (.string st.ww)/\Q i=[]:=fun i=>by
    by_cases hi:i<m
    ·obtain ⟨st,I⟩:=each i hi;exact ⟨st,fun _=>I⟩
    exact ⟨Y,fun I=>absurd I hi⟩
   exact J6
  obtain ⟨z,R⟩:=ch;refine ⟨RY,.inr ⟨a,m,z,rfl,hl,fun j au=> ?_⟩,fun x D=> ?_,.inr ⟨_,_,rfl,an⟩⟩
  ·obtain ⟨ae,af,ah,ai,ak,al,_⟩:=R j aj;exact ⟨ae,af,ah,ai,ak,al⟩
  rcases aT.1 D with D|D
  ·obtain ⟨i,hi,rfl⟩:=MemPlace.mem_row.1 D;rw [yg] at hi;have h0:=(R 0 aj).2.1;have:=World.block_lt_of_cell? W _ h0;have U:∀q,(a.add q).block=a.block:=fun q=>by unfold Addr.add;split<;>rfl
   rw [U] at this
   simpa [MemPlace.block,U] using this
  obtain ⟨i,hi,D⟩:=cb.1 D;rw [(R i (List.mem_range.1 hi)).2.2.2.2.2.2] at D
  cases D
end Go.Proofs.YtlbpnlngckgcbaaGreatDoor
namespace Go.Proofs.YtlbpnlngckgcbaaGreatDoor
open Go.ChangeShapes Go.WideShapes Go.RowKit
theorem gOwn:ownKnob Tryz.prog.godebug=none:=by kernel_rfl
theorem gVar:Tryz.prog.globalNamed "errors.errorType"=some 0:=by kernel_rfl
theorem gRt:(Tryz.prog.cutTypes.find? (·.1== "internal/reflectlite.rtype")).map (·.2)=some 325:=by kernel_rfl
theorem gSize:Tryz.prog.types.size=445:=by kernel_rfl
theorem gOne:((List.range 445).filter fun t=>Tryz.prog.rowNamed t [101,114,114,111,114])=[77]:=by kernel_rfl
theorem gLaid:laidOutB Tryz.prog=true:=by kernel_rfl
theorem QB:Tryz.prog.globals.size=5:=by kernel_rfl
theorem gFour:((begin Tryz.prog (fun _ _=>0) default).world.heap[4]?).bind Obj.row? =some ((((begin Tryz.prog (fun _ _=>0) default).world.heap[4]?).bind Obj.row?).getD (#[],0)):=by kernel_rfl
variable {W:World}
theorem RZ(C:laidMet Tryz.prog [("math/bits.deBruijn32tab",Rows.laid_math_bits_deBruijn32tab),("math/bits.deBruijn64tab",Rows.laid_math_bits_deBruijn64tab),("internal/strconv.uint64pow10",Rows.laid_internal_strconv_uint64pow10)] W):pm W:=by
 obtain ⟨ps,⟨_,_,_,_,_,_,_,_,_,_,⟨_,_,_,_,_,_,_,_,_,_,⟨g',Q,cs,fuel,p,q,I,J,O,D,_,_⟩,_⟩,_⟩,_⟩:=C;obtain rfl:=gu ((show Tryz.prog.globalNamed "internal/strconv.uint64pow10"=some 2 by kernel_rfl).symm.trans I);obtain rfl:=gu ((show (Tryz.prog.globals[2]?).map (·.type)=some 413 by kernel_rfl).symm.trans J);unfold pm Lib.TabIs;rw [O];rw [<-Lib.cells_of_tab (zs:=Lib.pow10Tab) (k:=.u64) Tryz.underlying413 Tryz.underlying192 au au D]
variable {H:Type} {fn:Func} {again:Bool}
theorem AV{enc:TypeId×Value->H}{a C os f s conds apart fresh handsOn}{X:World->Array Value->Prop}(Q:∀(w w':World)(args:Array Value),w.heap=w'.heap->X w args->X w' args)(own:ownKnob C.prog.godebug=none)(al:os.Started)(ak:C.prog.inits.idxOf? f=none)(U:C.prog.funcs[f]? =some fn) (am:∃(w:World)(tape:Tape)(i:Input),w.os=os/\(w.forCall tape i).Shaped C.prog/\i.vars=[]/\Input.okWide C.prog (w.forCall tape i) .any w.heap.size f i/\
   ((s.pre enc C.prog fn conds apart (w.forCall tape i).memory i.args/\X (w.forCall tape i).memory i.args)/\sizedMet enc C.prog fn (OpenSpec.ofChange s) apart (w.forCall tape i).memory i.args)/\a.holds C.prog (lone (Frame.enter C.prog f i.args .normal) [] (w.forCall tape i))) (J:∀(W:World) (base:Nat) (args:Array Value) (ds gs:List (DataW H)) (D:List MemPlace),
   (∀(j:Nat) t v,fn.params[j]? =some t->args[j]? =some v->Value.okWide C.prog W .any base t v)->
   DataW.Whole enc C.prog fn.params.toList s.vars apart W args.toList ds gs D->
   conds.all (PathCond.test C.prog ⟨fn.params.toList,ds,s.plain.varTypes C.prog,gs⟩)=true->
   (DataW.weightsEach C.prog (fn.params.toList++s.plain.varTypes C.prog) (ds++gs)).all (· <=reachBytes)=true->W.ShapedOpen C.prog->X W args->
   a.holds C.prog (lone (Frame.enter C.prog f args .normal) [] W)->
   Calls C.prog f args W fun e W'=>∃v,e=.returned v/\s.post enc C.prog fn apart fresh handsOn again W args v W'):
  ReturnsInHanded a C os f .any (fun w args=>(s.pre enc C.prog fn conds apart w args/\X w args)/\sizedMet enc C.prog fn (OpenSpec.ofChange s) apart w args) (s.post enc C.prog fn apart fresh handsOn again):=by
 refine returnsInHanded_of_calls own al ak am ?_;intro w tape i _ ad _ Z ac Y;obtain ⟨_,_,_,O,V,_,_,_,_,ae⟩:=Z;have e:O=fn:=gu (V.symm.trans U);subst e;obtain ⟨⟨⟨ds,gs,D,I,hc⟩,ai⟩,aj⟩:=ac;have ah:=DataW.Whole.of_heap (w':=w.forCall tape i) aS I;refine (J (w.forCall tape i) w.heap.size i.args ds gs D ae ah hc (aj.weights I) ad (Q _ _ _ aS ai) Y).mono fun e W' ⟨v,R,ab⟩=> ?_
 subst R;exact ChangeSpec.post_blind ab
end Go.Proofs.YtlbpnlngckgcbaaGreatDoor
