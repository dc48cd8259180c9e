import Derived.Test.YtlbpnlngckgcbaaGreatDoorM06
import Derived.Deep.Upon
set_option linter.all false
set_option maxHeartbeats 4000000
set_option maxRecDepth 100000
namespace Go.Proofs.YtlbpnlngckgcbaaGreatDoor
open Go.RowKit Go.PlainAid Go.Proofs.Tryz
variable {aF cD:Prop} {f g n base size b d i kd j aa pc sc e' c g5 aV m k i' d' a' b1 n1:Nat} {w w' wr w1 w5 W:af} {T e T' E:TypeId} {v tv kv rv pv kM pv':ag} {xs:List ag} {s:ae} {pl fw:List PV} {l lr:List PX} {ps:List Nat} {pa sa:Option Addr} {eg:List Tk} {o:Obj} {cs:Array ag} {signs:List ae} {α β:Type} {P:Program} {rest:List Oper}
abbrev qc:=@List.getElem?_append_left
abbrev s6:=@List.getElem?_concat_length
def cf(h:Nat->Ex->Prop):List Nat->List Ex->Prop
 | [],[]=>True
 |n::ns,x::xs=>h n x/\cf h ns xs
 |_,_=>False
def dl(x:Ex):List (ae×Nat×Ex)->Ex
 | []=>x
 |(t,p,y)::r=>dl (fV t p x y) r
def Tr(pl:List PV):Nat->Nat->Ex->Prop
 |0,_,_=>False
 |f+1,n,x=>∃p,pl[n]? =some p/\(
   (p.kind=1/\(p.ps=[]/\p.sg=[])/\x=⟨⟨0,p.pa,em,0,em,0,p.gs⟩,none,none⟩)\/
   (p.kind=2/\p.gs=[]/\(p.ps=[]/\p.sg=[])/\x=⟨⟨1,p.pa,p.nr,p.pa,em,0,[]⟩,none,none⟩)\/
   (p.kind=3/\p.gs=[]/\(p.ps=[]/\p.sg=[])/\x=⟨⟨2,p.pa,p.nb,p.pa,p.nr,p.pr,[]⟩,none,none⟩)\/
   (p.kind=4/\p.gs=[]/\∃h ns A rs,p.ps=h::ns/\Tr pl f h A/\cf (Tr pl f) ns (rs.map fun r=>r.2.2)/\p.sg=⟨[],0,false⟩::rs.map (fun r=>⟨bW r.1,r.2.1,false⟩)/\((∀r∈rs,r.1=sg 38\/r.1=sg 45)/\rs≠ [])/\x=dl A rs)\/
   (p.kind=5/\p.gs=[]/\p.sg=[]/\∃h ns A rs,p.ps=h::ns/\Tr pl f h A/\cf (Tr pl f) ns (rs.map fun r=>r.2.2)/\(∀r∈rs,r.1=sg 124)/\rs≠ []/\x=dl A rs))
theorem cf.mono{R S}(h:∀n x,R n x->S n x):∀(ns:List Nat)(xs:List Ex),cf R ns xs->cf S ns xs
 | [],[],_=>trivial
 |n::ns,x::xs,k=>⟨h n x k.1,cf.mono h ns xs k.2⟩
 | [],_::_,k=>k.elim
 |_::_,[],k=>k.elim
theorem Tr.more(pl t):∀(f n:Nat)(x:Ex),Tr pl f n x->Tr (pl++t) f n x
 |0,_,_,h=>h.elim
 |f+1,n,x,⟨p,hp,h⟩=>by
  refine ⟨p,?_,?_⟩
  ·rw [qc (be.1 hp).1];exact hp
  rcases h with h|h|h|⟨h1,h2,Q,ns,R,rs,A,C,D,I,J,O⟩|⟨h1,h2,U,Q,ns,R,rs,A,C,D,I,J,O⟩
  ·exact .inl h
  ·exact .inr (.inl h)
  ·exact .inr (.inr (.inl h))
  ·exact .inr (.inr (.inr (.inl ⟨h1,h2,Q,ns,R,rs,A,Tr.more pl t f _ _ C,cf.mono (Tr.more pl t f) _ _ D,I,J,O⟩)))
  exact .inr (.inr (.inr (.inr ⟨h1,h2,U,Q,ns,R,rs,A,Tr.more pl t f _ _ C,cf.mono (Tr.more pl t f) _ _ D,I,J,O⟩)))
theorem Tr.up(pl):∀(f n:Nat)(x:Ex),Tr pl f n x->Tr pl (f+1) n x
 |0,_,_,h=>h.elim
 |f+1,n,x,⟨p,hp,h⟩=>by
  refine ⟨p,hp,?_⟩
  rcases h with h|h|h|⟨h1,h2,Q,ns,R,rs,A,C,D,I,J,O⟩|⟨h1,h2,U,Q,ns,R,rs,A,C,D,I,J,O⟩
  ·exact .inl h
  ·exact .inr (.inl h)
  ·exact .inr (.inr (.inl h))
  ·exact .inr (.inr (.inr (.inl ⟨h1,h2,Q,ns,R,rs,A,Tr.up pl f _ _ C,cf.mono (Tr.up pl f) _ _ D,I,J,O⟩)))
  exact .inr (.inr (.inr (.inr ⟨h1,h2,U,Q,ns,R,rs,A,Tr.up pl f _ _ C,cf.mono (Tr.up pl f) _ _ D,I,J,O⟩)))
theorem Tr.le(pl)(h:f<=g){x}(k:Tr pl f n x):Tr pl g n x:=by
 obtain ⟨m,rfl⟩:=Nat.exists_eq_add_of_le h;clear h
 induction m with
 |zero=>exact k
 |succ m ih=>exact Tr.up pl _ _ _ ih
def kL(base b:Nat)(s:ae)(tv:ag)(i d a:Nat)(kv rv pv:ag)(pl:List PV)(l:List PX)(w:af)(ex:Nat)(A:eC Ex)(e:Ending)(w':af):Prop:=
 ∃m:Nat,e=.returned (.int .i64 m)/\∃pv' j6 h t tl,Fr base b w w' pv pv'/\PT base w' pv' j6 h/\j6=pl++t/\h=l++tl/\(∀x∈tl,jh w.heap.size x)/\match A with
  | .ok (x,j)=>RS w' b s tv j d 0 a kv rv pv'/\i<j/\j6.length+i<=pl.length+j/\∃f,Tr j6 f m x
  | .error (c,jj)=>c≠0/\∃j',i<=j'/\RS w' b s tv j' d c (PP s jj) kv rv pv'/\j6.length+i<=pl.length+j'+ex
def o8(s:ae)(h:Nat->eC Ex)(d ex:Nat):Prop:=∀(base b:Nat)(tv:ag)(i a:Nat)(kv rv pv:ag)(pl:List PV)(l:List PX)(w:af),RS w b s tv i d 0 a kv rv pv->PT base w pv pl l->base<=b->base<=w.heap.size->pl.length<=i->
 Calls prog 229 #[.pointer (some ⟨b,0,none⟩)] w (kL base b s tv i d a kv rv pv pl l w ex (h i))
theorem Gs(base b s tv i d a kv rv pv pl l w)(J:RS w b s tv i d 0 a kv rv pv)(ab:PT base w pv pl l)(U:base<=b)(O:base<=w.heap.size)(ap:pl.length<=i)(ex)(V:eqs (TT s i) (sg 91)=true):Calls prog 266 #[.pointer (some ⟨b,0,none⟩)] w (kL base b s tv i d a kv rv pv pl l w (ex+1) (kG (TT s) (PP s) i)):=by
 have ar:=J.gd.le;have au:=J.sz;have H:=ai J;have ah:=ai ab;have C:=ai (b3 b s tv i d a kv rv pv (sg 91) w J true V);clear J ab;go_enter func266,ntmps266;go_wp2_with fail;refine C.u.mono ?_;rintro e w1 ⟨rfl,I⟩;have an:=I.size;have ae:=ai (Fr.of_below (base:=base) (b:=b) (pv:=pv) I O);have af:=ai (H.u.below I);have am:=ai (ah.u.but (But.of_below (b:=b) I) H.u.blk U O);have R:=ai (Gq base b s tv i d a kv rv pv pl l w1 af.u am.u U (aL O I.size) aj V);clear I C;go_wp2_with fail;refine R.u.mono ?_;rintro e aw ⟨rfl,pv',p,x,fr,pt,Y,D⟩;have ag:=ai (Y.mono an);have ad:=ai (ae.u.trans fr);have ak:=ai pt;have al:=ai D;clear fr pt D Y R;go_wp2;go_ret;refine ⟨pl.length,rfl,pv',_,_,[p],[x],ad.u,ak.u,rfl,rfl,fun y ac=>by rw [aR] at ac;subst ac;exact ag.u,?_⟩;have D:=al.u;unfold kG
 cases Z:dW (TT s) (PP s) 512 [] i with
 |error e=>
  obtain ⟨c,av⟩:=e;rw [Z] at D;obtain ⟨hc,j',Q,rs⟩:=D;exact ⟨hc,j',Q,rs,aM⟩
 |ok y=>
  obtain ⟨gs,j⟩:=y;rw [Z] at D;obtain ⟨rs,rfl,Q⟩:=D;exact ⟨rs,Q,aM,1,_,s6,.inl ⟨rfl,⟨rfl,rfl⟩,rfl⟩⟩
theorem Gt(base b s tv i d a kv rv pv pl l w)(D:RS w b s tv i d 0 a kv rv pv)(ab:PT base w pv pl l)(Y:base<=b)(Z:base<=w.heap.size)(au:pl.length<=i)(ex)(h1:eqs (TT s i) (sg 91)=false)(ag:eqs (TT s i) (sg 40)=true)(af:d=4):Calls prog 266 #[.pointer (some ⟨b,0,none⟩)] w (kL base b s tv i d a kv rv pv pl l w (ex+1) (.error (3,i))):=by
 have H:=ai D;have ad:=ai ab;have C:=ai (b3 b s tv i d a kv rv pv (sg 91) w D false h1);have av:=D.lt;clear D ab;go_enter func266,ntmps266;go_wp2_with fail;refine C.u.mono ?_;rintro e w1 ⟨rfl,J⟩;have I:=ai (H.u.below J);have Q:=ai (But.of_below (b:=b) J);clear J C;go_wp2_with fail;refine (b3 b s tv i d a kv rv pv (sg 40) w1 I.u true ag).mono ?_;rintro e ap ⟨rfl,O⟩;have U:=ai (I.u.below O);have ac:=ai (Q.u.trans (But.of_below (b:=b) O));obtain ⟨ah,ak,al,r3,am,_⟩:=U.u.blk.eight;clear O I Q;subst af;go_wp2_with fail;refine (lu b s tv i 4 a kv rv pv 3 ap U.u).mono ?_;rintro e aw ⟨rfl,V,k3⟩;have R:=ai (ac.u.trans V);have ae:=ai k3;clear V k3 ah ak al r3 am;go_wp2;go_ret;exact ⟨0,rfl,pv,pl,l,[],[],Fr.of_but R.u Y Z,ad.u.but R.u H.u.blk Y Z,an,an,an,ar,i,cm _,ae.u,aj⟩
def Gu(T:Nat->ae)(r:eC Ex):eC Ex:=match r with
 | .error e=> .error e
 | .ok (x,j)=>if eqs (T j) (sg 41) then .ok (x,j+1) else .error (2,j)
theorem N9(base b s tv i d a kv rv pv pl l w)(Q:RS w b s tv i d 0 a kv rv pv)(aJ:PT base w pv pl l)(D:base<=b)(az:base<=w.heap.size)(aX:pl.length<=i)(inner ex)(aQ:o8 s inner (d+1) ex)(h1:eqs (TT s i) (sg 91)=false)(aH:eqs (TT s i) (sg 40)=true)(aU:d<4):Calls prog 266 #[.pointer (some ⟨b,0,none⟩)] w (kL base b s tv i d a kv rv pv pl l w (ex+1) (Gu (TT s) (inner (i+1)))):=by
 have H:=ai Q;have aP:=ai aJ;have aO:=ai (Q.gd.succ (cG aH ar));have C:=ai (b3 b s tv i d a kv rv pv (sg 91) w Q false h1);have aZ:=Q.lt;have aY:=Q.gd.le;have a0:=Q.sz;have aR:¬((d:Int)=4):=aj;have aW:((d:Int)==4)=false:=bG.2 aR;clear Q aJ;go_enter func266,ntmps266;go_wp2_with fail;refine C.u.mono ?_;rintro e w1 ⟨rfl,aw⟩;have ap:=ai (H.u.below aw);have aC:=ai (But.of_below (b:=b) aw);clear aw C;go_wp2_with fail;refine (b3 b s tv i d a kv rv pv (sg 40) w1 ap.u true aH).mono ?_;rintro e aB ⟨rfl,ax⟩;have ah:=ai (ap.u.below ax);have aD:=ai (aC.u.trans (But.of_below (b:=b) ax));obtain ⟨U,V,Y,r3,Z,_⟩:=ah.u.blk.eight;have ab:=ah.u.blk.fz;clear ax ap aC;go_wp2_with fail;have aN:=ai (show RS ((aB.setCell ⟨b,1,none⟩ (.int .i64 ((i:Int)+1))).setCell ⟨b,2,none⟩ (.int .i64 ((d:Int)+1))) b s tv (i+1) (d+1) 0 a kv rv pv from (ah.u.setI (i+1) aO.u).setD (d+1));have ag:=ai (show But b w ((aB.setCell ⟨b,1,none⟩ (.int .i64 ((i:Int)+1))).setCell ⟨b,2,none⟩ (.int .i64 ((d:Int)+1))) from (aD.u.setCell 1 _).setCell 2 _);clear U V Y r3 Z ab ah aD;generalize (aB.setCell ⟨b,1,none⟩ (.int .i64 ((i:Int)+1))).setCell ⟨b,2,none⟩ (.int .i64 ((d:Int)+1))=aG at*;have aK:base<=aG.heap.size:=aL az ag.u.size;have aE:=ai (aQ base b tv (i+1) a kv rv pv pl l aG aN.u (aP.u.but ag.u H.u.blk D az) D aK aj);refine aE.u.mono ?_;rintro e am ⟨m,rfl,pv',j6,a1,t,tl,fr,pt,rfl,rfl,aI,al⟩;have au:=ai (fun x aT=>(aI x aT).mono ag.u.size);have an:=ai ((Fr.of_but ag.u D az).trans fr);have av:=ai pt;have R:base<=am.heap.size:=aL aK fr.below.size;clear fr pt aI aE
 cases O:inner (i+1) with
 |error e=>
  obtain ⟨c,aM⟩:=e;rw [O] at al;obtain ⟨hc,j',aS,rs,hn⟩:=al;have E:=ai (show Gu (TT s) (inner (i+1))=.error (c,aM) by rw [O];rfl);have ad:=ai rs;obtain ⟨U,V,Y,r3,Z,_⟩:=rs.blk.eight;have ab:=rs.blk.fz;have J:=ai (sZ b s tv j' d c (PP s aM) kv rv pv' (sg 41) _ (rs.setD d) hc);clear rs O;go_wp2_with fail;refine J.u.mono ?_;rintro e w5 ⟨rfl,ay⟩;have ac:=ai ((ad.u.setD d).below ay);have I:=ai (((But.refl b am).setCell 2 (.int .i64 (d:Nat))).trans (But.of_below ay));clear ay J U V Y r3 Z ab;go_wp2;go_ret;rw [E.u];exact ⟨m,rfl,pv',_,_,t,tl,an.u.trans (Fr.of_but I.u D R),av.u.but I.u ad.u.blk D R,rfl,rfl,au.u,hc,j',aj,ac.u,aj⟩
 |ok y=>
  obtain ⟨x,j⟩:=y;rw [O] at al;obtain ⟨rs,aS,hn,f,aA⟩:=al;have ad:=ai rs;have TR:=ai aA;obtain ⟨U,V,Y,r3,Z,_⟩:=rs.blk.eight;have ab:=rs.blk.fz
  cases ak:eqs (TT s j) (sg 41)
  ·have E:=ai (show Gu (TT s) (inner (i+1))=.error (2,j) by rw [O];simp [Gu,ak]);have J:=ai (xr b s tv j d a kv rv pv' (sg 41) _ (rs.setD d) ak);clear rs O aA;go_wp2_with fail;refine J.u.mono ?_;rintro e w5 ⟨rfl,ae,af⟩;have ac:=ai af;have I:=ai (((But.refl b am).setCell 2 (.int .i64 (d:Nat))).trans ae);clear ae af J U V Y r3 Z ab;go_wp2;go_ret;rw [E.u];exact ⟨m,rfl,pv',_,_,t,tl,an.u.trans (Fr.of_but I.u D R),av.u.but I.u ad.u.blk D R,rfl,rfl,au.u,ar,j,aj,ac.u,aj⟩
  have E:=ai (show Gu (TT s) (inner (i+1))=.ok (x,j+1) by rw [O];simp [Gu,ak]);have J:=ai (sY b s tv j d a kv rv pv' (sg 41) _ (rs.setD d) ak ar);clear rs O aA;go_wp2_with fail;refine J.u.mono ?_;rintro e w5 ⟨rfl,ae,af⟩;have ac:=ai af;have I:=ai (((But.refl b am).setCell 2 (.int .i64 (d:Nat))).trans ae);clear ae af J U V Y r3 Z ab;go_wp2;go_ret;rw [E.u];exact ⟨m,rfl,pv',_,_,t,tl,an.u.trans (Fr.of_but I.u D R),av.u.but I.u ad.u.blk D R,rfl,rfl,au.u,ac.u,aj,aj,f,TR.u⟩
def PY (R:aF:=by
 rintro e' wf ⟨pv',rfl,fr,I,D⟩;have J:=ai ((Fr.of_but B4.u hbb mE).trans fr);have Q:=ai I;have O:=ai D;clear fr I D;go_wp2;go_ret;exact ⟨pl.length,rfl,pv',_,_,[_],[_],J.u,O.u,rfl,rfl,fun y C=>by rw [aR] at C;subst C;exact ni _ _,ar,i,cm _,Q.u,aM⟩):aF:=R
def PZ (R:aF:=by
 rintro e' wf ⟨pv',rfl,fr,I,D⟩;have J:=ai ((Fr.of_but B7.u hbb mE).trans fr);have Q:=ai I;have O:=ai D;clear fr I D;go_wp2;go_ret;exact ⟨pl.length,rfl,pv',_,_,[_],[_],J.u,O.u,rfl,rfl,fun y C=>by rw [aR] at C;subst C;exact ni _ _,ar,i+2,aj,Q.u,aM⟩):aF:=R
theorem nk(w k x y p q):kj w (⟨k,[],x,y,p,q,[],[]⟩,.slice none 0 0,.slice none 0 0,.slice none 0 0):=⟨bN,bN,bN⟩
theorem JG(base b s tv i d a kv rv pv pl l w)(D:RS w b s tv i d 0 a kv rv pv)(ak:PT base w pv pl l)(Z:base<=b)(ab:base<=w.heap.size)(aG:pl.length<=i)(ex)(h1:eqs (TT s i) (sg 91)=false)(h2:eqs (TT s i) (sg 40)=false)(aD:c9 (TT s i)=true)(aA:(TT s i).size<=8)(aC:eqs (TT s (i+1)) (sg 46)=false):Calls prog 266 #[.pointer (some ⟨b,0,none⟩)] w (kL base b s tv i d a kv rv pv pl l w (ex+1) (.ok (⟨⟨1,PP s i,TT s i,PP s i,em,0,[]⟩,none,none⟩,i+1))):=by
 have H:=ai D;have au:=ai ak;have C:=ai (b3 b s tv i d a kv rv pv (sg 91) w D false h1);have aI:=D.lt;have aH:=D.gd.le;have aJ:=D.sz;clear D ak;go_enter func266,ntmps266;go_wp2_with fail;refine C.u.mono ?_;rintro e w1 ⟨rfl,V⟩;have R:=ai (H.u.below V);have ad:=ai (But.of_below (b:=b) V);clear V C;go_wp2_with fail;refine (b3 b s tv i d a kv rv pv (sg 40) w1 R.u false h2).mono ?_;rintro e aE ⟨rfl,Y⟩;have af:=ai (R.u.below Y);have ae:=ai (ad.u.trans (But.of_below (b:=b) Y));clear Y R ad;go_wp2_with fail;refine (iH b s tv i d a kv rv pv aE af.u aD aA).mono ?_;rintro e ac ⟨rfl,ah,k3⟩;have U:=ai k3;have J:=ai (ae.u.trans ah);have Q:=ai (aw ac.heap.size ac);clear ah k3 af ae;unfold o7;go_wp2_with fail;refine (b3 b s tv (i+1) d a kv rv pv (sg 46) _ ?r (false) aC).mono ?_
 case r=>exact U.u.below (bB Q)
 rintro e ap ⟨rfl,I⟩;have av:=ai ((U.u.below (bB Q)).below I);have ag:=ai ((aB.new ac #[.string (TT s i),.int .i64 (PP s i),.bool (bM (TT s i))] 259).below I);have O:=ai ((show But b w _ from (cL J)).trans (But.of_below I));obtain ⟨t0,t1,t2⟩:=ag.u.three;have aK:=ag.u.lt;have aN:=J.u.size;clear I U J Q;go_wp2_with fail;have az:=ai (au.u.but O.u H.u.blk Z ab);have I:base<=(ap).heap.size:=aL ab O.u.size;refine (eL base b s tv (i+1) d 0 (a) kv rv pv pl l ⟨2,[],em,TT s i,PP s i,0,[],[]⟩ none 0 none 0 none 0 (ap) av.u az.u (nk _ _ _ _ _ _) aj I Z).mono ?_;rintro e' wf ⟨pv',rfl,fr,an,am⟩;have ar:=ai ((Fr.of_but O.u Z ab).trans fr);have ay:=ai an;have ax:=ai am;clear fr an am;go_wp2;go_ret;exact ⟨pl.length,rfl,pv',_,_,[_],[_],ar.u,ax.u,rfl,rfl,fun y al=>by rw [aR] at al;subst al;exact ni _ _,ay.u,aj,aM,1,_,s6,.inr (.inl ⟨rfl,rfl,⟨rfl,rfl⟩,rfl⟩)⟩
theorem Gv(base b s tv i d a kv rv pv pl l w)(U:RS w b s tv i d 0 a kv rv pv)(an:PT base w pv pl l)(hbb:base<=b)(mE:base<=w.heap.size)(aA:pl.length<=i)(ex)(h1:eqs (TT s i) (sg 91)=false)(h2:eqs (TT s i) (sg 40)=false)(ay:c9 (TT s i)=false):Calls prog 266 #[.pointer (some ⟨b,0,none⟩)] w (kL base b s tv i d a kv rv pv pl l w (ex+1) (.error (2,i))):=by
 have H:=ai U;have au:=ai an;have C:=ai (b3 b s tv i d a kv rv pv (sg 91) w U false h1);have aD:=U.lt;have aC:=U.gd.le;have aE:=U.sz;clear U an;go_enter func266,ntmps266;go_wp2_with fail;refine C.u.mono ?_;rintro e w1 ⟨rfl,ad⟩;have ab:=ai (H.u.below ad);have ag:=ai (But.of_below (b:=b) ad);clear ad C;go_wp2_with fail;refine (b3 b s tv i d a kv rv pv (sg 40) w1 ab.u false h2).mono ?_;rintro e az ⟨rfl,ae⟩;have ak:=ai (ab.u.below ae);have ah:=ai (ag.u.trans (But.of_below (b:=b) ae));clear ae ab ag;go_wp2_with fail;refine (jB b s tv i d a kv rv pv true az ak.u ay).mono ?_;rintro e af ⟨rfl,am,k3⟩;have ac:=ai k3;have Y:=ai (ah.u.trans am);have Z:=ai (aw af.heap.size af);clear am k3 ak ah;unfold o7;go_wp2_with fail;refine (iC b s tv i d 2 (PP s i) kv rv pv (sg 46) _ ?r ar).mono ?_
 case r=>exact ac.u.below (bB Z)
 rintro e ap ⟨rfl,V⟩;have av:=ai ((ac.u.below (bB Z)).below V);have al:=ai ((aB.new af #[.string (TT s i),.int .i64 (PP s i),.bool (bM (TT s i))] 259).below V);have B4:=ai ((show But b w _ from (cL Y)).trans (But.of_below V));obtain ⟨t0,t1,t2⟩:=al.u.three;have aG:=al.u.lt;have aH:=Y.u.size;clear V ac Y Z;go_wp2_with fail;have ax:=ai (au.u.but B4.u H.u.blk hbb mE);have V:base<=(ap).heap.size:=aL mE B4.u.size;refine (eL base b s tv (i) d 2 (PP s i) kv rv pv pl l ⟨2,[],em,TT s i,PP s i,0,[],[]⟩ none 0 none 0 none 0 (ap) av.u ax.u (nk _ _ _ _ _ _) aj V hbb).mono ?_;exact PY
theorem JH(base b s tv i d a kv rv pv pl l w)(U:RS w b s tv i d 0 a kv rv pv)(an:PT base w pv pl l)(hbb:base<=b)(mE:base<=w.heap.size)(aC:pl.length<=i)(ex)(h1:eqs (TT s i) (sg 91)=false)(h2:eqs (TT s i) (sg 40)=false)(az:c9 (TT s i)=true)(ay:8<(TT s i).size):Calls prog 266 #[.pointer (some ⟨b,0,none⟩)] w (kL base b s tv i d a kv rv pv pl l w (ex+1) (.error (3,i))):=by
 have H:=ai U;have au:=ai an;have C:=ai (b3 b s tv i d a kv rv pv (sg 91) w U false h1);have aE:=U.lt;have aD:=U.gd.le;have aG:=U.sz;clear U an;go_enter func266,ntmps266;go_wp2_with fail;refine C.u.mono ?_;rintro e w1 ⟨rfl,ad⟩;have ab:=ai (H.u.below ad);have ag:=ai (But.of_below (b:=b) ad);clear ad C;go_wp2_with fail;refine (b3 b s tv i d a kv rv pv (sg 40) w1 ab.u false h2).mono ?_;rintro e aA ⟨rfl,ae⟩;have ak:=ai (ab.u.below ae);have ah:=ai (ag.u.trans (But.of_below (b:=b) ae));clear ae ab ag;go_wp2_with fail;refine (kK b s tv i d a kv rv pv true aA ak.u az ay).mono ?_;rintro e af ⟨rfl,am,k3⟩;have ac:=ai k3;have Y:=ai (ah.u.trans am);have Z:=ai (aw af.heap.size af);clear am k3 ak ah;unfold o7;go_wp2_with fail;refine (iC b s tv i d 3 (PP s i) kv rv pv (sg 46) _ ?r ar).mono ?_
 case r=>exact ac.u.below (bB Z)
 rintro e ap ⟨rfl,V⟩;have av:=ai ((ac.u.below (bB Z)).below V);have al:=ai ((aB.new af #[.string (TT s i),.int .i64 (PP s i),.bool (bM (TT s i))] 259).below V);have B4:=ai ((show But b w _ from (cL Y)).trans (But.of_below V));obtain ⟨t0,t1,t2⟩:=al.u.three;have aH:=al.u.lt;have aI:=Y.u.size;clear V ac Y Z;go_wp2_with fail;have ax:=ai (au.u.but B4.u H.u.blk hbb mE);have V:base<=(ap).heap.size:=aL mE B4.u.size;refine (eL base b s tv (i) d 3 (PP s i) kv rv pv pl l ⟨2,[],em,TT s i,PP s i,0,[],[]⟩ none 0 none 0 none 0 (ap) av.u ax.u (nk _ _ _ _ _ _) aj V hbb).mono ?_;exact PY
theorem JI(base b s tv i d a kv rv pv pl l w)(J:RS w b s tv i d 0 a kv rv pv)(aH:PT base w pv pl l)(ak:base<=b)(al:base<=w.heap.size)(be:pl.length<=i)(ex)(h1:eqs (TT s i) (sg 91)=false)(h2:eqs (TT s i) (sg 40)=false)(a5:c9 (TT s i)=true)(aZ:(TT s i).size<=8)(aE:eqs (TT s (i+1)) (sg 46)=true)(a3:c9 (TT s (i+2))=true)(a4:(TT s (i+2)).size<=8):Calls prog 266 #[.pointer (some ⟨b,0,none⟩)] w (kL base b s tv i d a kv rv pv pl l w (ex+1) (.ok (⟨⟨2,PP s i,TT s i,PP s i,TT s (i+2),PP s (i+2),[]⟩,none,none⟩,i+3))):=by
 have H:=ai J;have aS:=ai aH;have C:=ai (b3 b s tv i d a kv rv pv (sg 91) w J false h1);have bg:=J.lt;have bf:=J.gd.le;have bh:=J.sz;clear J aH;go_enter func266,ntmps266;go_wp2_with fail;refine C.u.mono ?_;rintro e w1 ⟨rfl,ag⟩;have ac:=ai (H.u.below ag);have am:=ai (But.of_below (b:=b) ag);clear ag C;go_wp2_with fail;refine (b3 b s tv i d a kv rv pv (sg 40) w1 ac.u false h2).mono ?_;rintro e bb ⟨rfl,ah⟩;have av:=ai (ac.u.below ah);have an:=ai (am.u.trans (But.of_below (b:=b) ah));clear ah ac am;go_wp2_with fail;refine (iH b s tv i d a kv rv pv bb av.u a5 aZ).mono ?_;rintro e D ⟨rfl,aD,k3⟩;have ad:=ai k3;have V:=ai (an.u.trans aD);have ab:=ai (aw D.heap.size D);clear aD k3 av an;unfold o7;go_wp2_with fail;refine (b3 b s tv (i+1) d a kv rv pv (sg 46) _ ?r true aE).mono ?_
 case r=>exact ad.u.below (bB ab)
 rintro e U ⟨rfl,O⟩;have Q:=ai ((ad.u.below (bB ab)).below O);have R:=ai ((aB.new D #[.string (TT s i),.int .i64 (PP s i),.bool (bM (TT s i))] 259).below O);have Y:=ai ((show But b w _ from (cL V)).trans (But.of_below O));obtain ⟨t0,t1,t2⟩:=R.u.three;have a6:=R.u.lt;have bj:=V.u.size;clear O ad V ab;have aQ:=ai (Q.u.gd.succ (cG aE ar));obtain ⟨a7,a8,a9,r3,ba,_⟩:=Q.u.blk.eight;have bc:=Q.u.blk.fz;have bk:=Y.u.size;go_wp2_with fail;have ax:=ai (show RS (U.setCell ⟨b,1,none⟩ (.int .i64 ((i:Int)+1+1))) b s tv (i+2) d 0 a kv rv pv from Q.u.setI (i+2) aQ.u);have ap:=ai (show But b w (U.setCell ⟨b,1,none⟩ (.int .i64 ((i:Int)+1+1))) from Y.u.setCell 1 _);have aG:¬(D.heap.size=b):=aj;have aA:=ai (show aB (U.setCell ⟨b,1,none⟩ (.int .i64 ((i:Int)+1+1))) D.heap.size #[.string (TT s i),.int .i64 (PP s i),.bool (bM (TT s i))] 259 from R.u.other aG _);clear a7 a8 a9 r3 ba bc t0 t1 t2 a6 Q Y R;generalize U.setCell ⟨b,1,none⟩ (.int .i64 ((i:Int)+1+1))=aY at*;refine (iH b s tv (i+2) d a kv rv pv aY ax.u a3 a4).mono ?_;rintro e I ⟨rfl,af,aJ⟩;have ay:=ai aJ;have au:=ai (ap.u.trans af);have ae:=ai (aA.u.but af aG);have bi:=ae.u.lt;obtain ⟨t0,t1,t2⟩:=ae.u.three;have n1:¬(D.heap.size=I.heap.size):=aj;have n2:¬(I.heap.size=D.heap.size):=aj;have aO:=ai (aw I.heap.size I);clear af aJ ax ap aA;unfold o7;go_wp2_with fail;have aT:=ai (ay.u.below ((aw _ I).alloc az (ep (TT s (i+2)) (PP s (i+2)) (bM (TT s (i+2))))));have Z:=ai (au.u.trans (But.of_below (b:=b) ((aw _ I).alloc az (ep (TT s (i+2)) (PP s (i+2)) (bM (TT s (i+2)))))));clear ay au ae aO;generalize I.alloc (ep (TT s (i+2)) (PP s (i+2)) (bM (TT s (i+2))))=aC at*;have aX:=ai (aS.u.but Z.u H.u.blk ak al);have O:base<=(aC).heap.size:=aL al Z.u.size;refine (eL base b s tv (i+3) d 0 (a) kv rv pv pl l ⟨3,[],TT s i,TT s (i+2),PP s i,PP s (i+2),[],[]⟩ none 0 none 0 none 0 (aC) aT.u aX.u (nk _ _ _ _ _ _) aj O ak).mono ?_;rintro e' wf ⟨pv',rfl,fr,aN,aK⟩;have aP:=ai ((Fr.of_but Z.u ak al).trans fr);have aW:=ai aN;have aU:=ai aK;clear fr aN aK;go_wp2;go_ret;exact ⟨pl.length,rfl,pv',_,_,[_],[_],aP.u,aU.u,rfl,rfl,fun y aI=>by rw [aR] at aI;subst aI;exact ni _ _,aW.u,aj,aM,1,_,s6,.inr (.inr (.inl ⟨rfl,rfl,⟨rfl,rfl⟩,rfl⟩))⟩
theorem xw(base b s tv i d a kv rv pv pl l w)(Y:RS w b s tv i d 0 a kv rv pv)(aK:PT base w pv pl l)(hbb:base<=b)(mE:base<=w.heap.size)(a9:pl.length<=i)(ex)(h1:eqs (TT s i) (sg 91)=false)(h2:eqs (TT s i) (sg 40)=false)(aY:c9 (TT s i)=true)(aW:(TT s i).size<=8)(aI:eqs (TT s (i+1)) (sg 46)=true)(aX:c9 (TT s (i+2))=false):Calls prog 266 #[.pointer (some ⟨b,0,none⟩)] w (kL base b s tv i d a kv rv pv pl l w (ex+1) (.error (2,i+2))):=by
 have H:=ai Y;have aQ:=ai aK;have C:=ai (b3 b s tv i d a kv rv pv (sg 91) w Y false h1);have bb:=Y.lt;have ba:=Y.gd.le;have bc:=Y.sz;clear Y aK;go_enter func266,ntmps266;go_wp2_with fail;refine C.u.mono ?_;rintro e w1 ⟨rfl,an⟩;have ah:=ai (H.u.below an);have au:=ai (But.of_below (b:=b) an);clear an C;go_wp2_with fail;refine (b3 b s tv i d a kv rv pv (sg 40) w1 ah.u false h2).mono ?_;rintro e a7 ⟨rfl,ap⟩;have aA:=ai (ah.u.below ap);have av:=ai (au.u.trans (But.of_below (b:=b) ap));clear ap ah au;go_wp2_with fail;refine (iH b s tv i d a kv rv pv a7 aA.u aY aW).mono ?_;rintro e U ⟨rfl,aH,k3⟩;have ak:=ai k3;have ae:=ai (av.u.trans aH);have ag:=ai (aw U.heap.size U);clear aH k3 aA av;unfold o7;go_wp2_with fail;refine (b3 b s tv (i+1) d a kv rv pv (sg 46) _ ?r true aI).mono ?_
 case r=>exact ak.u.below (bB ag)
 rintro e ad ⟨rfl,Z⟩;have ab:=ai ((ak.u.below (bB ag)).below Z);have ac:=ai ((aB.new U #[.string (TT s i),.int .i64 (PP s i),.bool (bM (TT s i))] 259).below Z);have af:=ai ((show But b w _ from (cL ae)).trans (But.of_below Z));obtain ⟨t0,t1,t2⟩:=ac.u.three;have aZ:=ac.u.lt;have bf:=ae.u.size;clear Z ak ae ag;have aP:=ai (ab.u.gd.succ (cG aI ar));obtain ⟨a3,a4,a5,r3,a6,_⟩:=ab.u.blk.eight;have a8:=ab.u.blk.fz;have bg:=af.u.size;go_wp2_with fail;have aC:=ai (show RS (ad.setCell ⟨b,1,none⟩ (.int .i64 ((i:Int)+1+1))) b s tv (i+2) d 0 a kv rv pv from ab.u.setI (i+2) aP.u);have ax:=ai (show But b w (ad.setCell ⟨b,1,none⟩ (.int .i64 ((i:Int)+1+1))) from af.u.setCell 1 _);have aJ:¬(U.heap.size=b):=aj;have aE:=ai (show aB (ad.setCell ⟨b,1,none⟩ (.int .i64 ((i:Int)+1+1))) U.heap.size #[.string (TT s i),.int .i64 (PP s i),.bool (bM (TT s i))] 259 from ac.u.other aJ _);clear a3 a4 a5 r3 a6 a8 t0 t1 t2 aZ ab af ac;generalize ad.setCell ⟨b,1,none⟩ (.int .i64 ((i:Int)+1+1))=aU at*;refine (jB b s tv (i+2) d a kv rv pv true aU aC.u aX).mono ?_;rintro e V ⟨rfl,am,aN⟩;have aD:=ai aN;have ay:=ai (ax.u.trans am);have al:=ai (aE.u.but am aJ);have be:=al.u.lt;obtain ⟨t0,t1,t2⟩:=al.u.three;have n1:¬(U.heap.size=V.heap.size):=aj;have n2:¬(V.heap.size=U.heap.size):=aj;have aO:=ai (aw V.heap.size V);clear am aN aC ax aE;unfold o7;go_wp2_with fail;have aS:=ai (aD.u.below ((aw _ V).alloc az (ep (TT s (i+2)) (PP s (i+2)) (bM (TT s (i+2))))));have B7:=ai (ay.u.trans (But.of_below (b:=b) ((aw _ V).alloc az (ep (TT s (i+2)) (PP s (i+2)) (bM (TT s (i+2)))))));clear aD ay al aO;generalize V.alloc (ep (TT s (i+2)) (PP s (i+2)) (bM (TT s (i+2))))=aG at*;have aT:=ai (aQ.u.but B7.u H.u.blk hbb mE);have Z:base<=(aG).heap.size:=aL mE B7.u.size;refine (eL base b s tv (i+2) d 2 (PP s (i+2)) kv rv pv pl l ⟨3,[],TT s i,TT s (i+2),PP s i,PP s (i+2),[],[]⟩ none 0 none 0 none 0 (aG) aS.u aT.u (nk _ _ _ _ _ _) aj Z hbb).mono ?_;exact PZ
theorem zo(base b s tv i d a kv rv pv pl l w)(Y:RS w b s tv i d 0 a kv rv pv)(aK:PT base w pv pl l)(hbb:base<=b)(mE:base<=w.heap.size)(ba:pl.length<=i)(ex)(h1:eqs (TT s i) (sg 91)=false)(h2:eqs (TT s i) (sg 40)=false)(aZ:c9 (TT s i)=true)(aW:(TT s i).size<=8)(aI:eqs (TT s (i+1)) (sg 46)=true)(aX:c9 (TT s (i+2))=true)(aY:8<(TT s (i+2)).size):Calls prog 266 #[.pointer (some ⟨b,0,none⟩)] w (kL base b s tv i d a kv rv pv pl l w (ex+1) (.error (3,i+2))):=by
 have H:=ai Y;have aQ:=ai aK;have C:=ai (b3 b s tv i d a kv rv pv (sg 91) w Y false h1);have bc:=Y.lt;have bb:=Y.gd.le;have be:=Y.sz;clear Y aK;go_enter func266,ntmps266;go_wp2_with fail;refine C.u.mono ?_;rintro e w1 ⟨rfl,an⟩;have ah:=ai (H.u.below an);have au:=ai (But.of_below (b:=b) an);clear an C;go_wp2_with fail;refine (b3 b s tv i d a kv rv pv (sg 40) w1 ah.u false h2).mono ?_;rintro e a8 ⟨rfl,ap⟩;have aA:=ai (ah.u.below ap);have av:=ai (au.u.trans (But.of_below (b:=b) ap));clear ap ah au;go_wp2_with fail;refine (iH b s tv i d a kv rv pv a8 aA.u aZ aW).mono ?_;rintro e U ⟨rfl,aH,k3⟩;have ak:=ai k3;have ae:=ai (av.u.trans aH);have ag:=ai (aw U.heap.size U);clear aH k3 aA av;unfold o7;go_wp2_with fail;refine (b3 b s tv (i+1) d a kv rv pv (sg 46) _ ?r true aI).mono ?_
 case r=>exact ak.u.below (bB ag)
 rintro e ad ⟨rfl,Z⟩;have ab:=ai ((ak.u.below (bB ag)).below Z);have ac:=ai ((aB.new U #[.string (TT s i),.int .i64 (PP s i),.bool (bM (TT s i))] 259).below Z);have af:=ai ((show But b w _ from (cL ae)).trans (But.of_below Z));obtain ⟨t0,t1,t2⟩:=ac.u.three;have a3:=ac.u.lt;have bg:=ae.u.size;clear Z ak ae ag;have aP:=ai (ab.u.gd.succ (cG aI ar));obtain ⟨a4,a5,a6,r3,a7,_⟩:=ab.u.blk.eight;have a9:=ab.u.blk.fz;have bh:=af.u.size;go_wp2_with fail;have aC:=ai (show RS (ad.setCell ⟨b,1,none⟩ (.int .i64 ((i:Int)+1+1))) b s tv (i+2) d 0 a kv rv pv from ab.u.setI (i+2) aP.u);have ax:=ai (show But b w (ad.setCell ⟨b,1,none⟩ (.int .i64 ((i:Int)+1+1))) from af.u.setCell 1 _);have aJ:¬(U.heap.size=b):=aj;have aE:=ai (show aB (ad.setCell ⟨b,1,none⟩ (.int .i64 ((i:Int)+1+1))) U.heap.size #[.string (TT s i),.int .i64 (PP s i),.bool (bM (TT s i))] 259 from ac.u.other aJ _);clear a4 a5 a6 r3 a7 a9 t0 t1 t2 a3 ab af ac;generalize ad.setCell ⟨b,1,none⟩ (.int .i64 ((i:Int)+1+1))=aU at*;refine (kK b s tv (i+2) d a kv rv pv true aU aC.u aX aY).mono ?_;rintro e V ⟨rfl,am,aN⟩;have aD:=ai aN;have ay:=ai (ax.u.trans am);have al:=ai (aE.u.but am aJ);have bf:=al.u.lt;obtain ⟨t0,t1,t2⟩:=al.u.three;have n1:¬(U.heap.size=V.heap.size):=aj;have n2:¬(V.heap.size=U.heap.size):=aj;have aO:=ai (aw V.heap.size V);clear am aN aC ax aE;unfold o7;go_wp2_with fail;have aS:=ai (aD.u.below ((aw _ V).alloc az (ep (TT s (i+2)) (PP s (i+2)) (bM (TT s (i+2))))));have B7:=ai (ay.u.trans (But.of_below (b:=b) ((aw _ V).alloc az (ep (TT s (i+2)) (PP s (i+2)) (bM (TT s (i+2)))))));clear aD ay al aO;generalize V.alloc (ep (TT s (i+2)) (PP s (i+2)) (bM (TT s (i+2))))=aG at*;have aT:=ai (aQ.u.but B7.u H.u.blk hbb mE);have Z:base<=(aG).heap.size:=aL mE B7.u.size;refine (eL base b s tv (i+2) d 3 (PP s (i+2)) kv rv pv pl l ⟨3,[],TT s i,TT s (i+2),PP s i,PP s (i+2),[],[]⟩ none 0 none 0 none 0 (aG) aS.u aT.u (nk _ _ _ _ _ _) aj Z hbb).mono ?_;exact PZ
theorem Gw(base b s tv i d a kv rv pv pl l w)(C:RS w b s tv i d 0 a kv rv pv)(O:PT base w pv pl l)(D:base<=b)(I:base<=w.heap.size)(J:pl.length<=i)(room inner ex)(Y:room=true->d<4/\o8 s inner (d+1) ex)(Z:room=false->d=4):Calls prog 266 #[.pointer (some ⟨b,0,none⟩)] w (kL base b s tv i d a kv rv pv pl l w (ex+1) (eQ (TT s) (PP s) room inner i)):=by
 unfold eQ
 cases h1:eqs (TT s i) (sg 91)
 ·simp only [bz,aP]
  cases h2:eqs (TT s i) (sg 40)
  ·simp only [bz,aP];unfold iX cE
   cases hn:c9 (TT s i)
   ·exact Gv base b s tv i d a kv rv pv pl l w C O D I J ex h1 h2 hn
   by_cases U:8<(TT s i).size
   ·simp only [if_true,U];exact JH base b s tv i d a kv rv pv pl l w C O D I J ex h1 h2 hn U
   simp only [if_true,U,aP]
   cases Q:eqs (TT s (i+1)) (sg 46)
   ·simp only [bz,aP];exact JG base b s tv i d a kv rv pv pl l w C O D I J ex h1 h2 hn aj Q
   simp only [if_true]
   cases V:c9 (TT s (i+1+1))
   ·exact xw base b s tv i d a kv rv pv pl l w C O D I J ex h1 h2 hn aj Q V
   by_cases R:8<(TT s (i+1+1)).size
   ·simp only [if_true,R];exact zo base b s tv i d a kv rv pv pl l w C O D I J ex h1 h2 hn aj Q V R
   simp only [if_true,R,aP];exact JI base b s tv i d a kv rv pv pl l w C O D I J ex h1 h2 hn aj Q V (Nat.le_of_not_lt R)
  simp only [if_true]
  cases room with
  |false=>
   simp only [bz,aP];exact Gt base b s tv i d a kv rv pv pl l w C O D I J ex h1 h2 (Z rfl)
  |true=>
   simp only [if_true];exact N9 base b s tv i d a kv rv pv pl l w C O D I J inner ex (Y rfl).2 h1 h2 (Y rfl).1
 simp only [if_true];exact Gs base b s tv i d a kv rv pv pl l w C O D I J ex h1
section
def JJ (h:aF:=by
 refine ⟨h.1,?_⟩
 rcases h.2 with h|⟨g,cap,A,h1,h2,C,D⟩
 ·exact .inl h
 exact .inr ⟨g,cap,A,h1,h2,(k g A (0,0) C (by rw [h1];rfl)).trans C,D⟩):aF:=h
def u4(o:Option Nat)(x:PX):Prop:=∀g,(x.2.1.ownBlock=some g\/x.2.2.1.ownBlock=some g\/x.2.2.2.ownBlock=some g)->o≠some g
theorem kj.lt{x}(A:kj w x):∀g,(x.2.1.ownBlock=some g\/x.2.2.1.ownBlock=some g\/x.2.2.2.ownBlock=some g)->g<w.heap.size:=fun g h=>by
 rcases h with h|h|h
 ·exact (A.g.lt g h).2
 ·exact (A.p.lt g h).2
 exact (A.s.lt g h).2
theorem kj.keep{x}(h:kj w x)(k:∀g cs T f,w.heap[g]? =some (.cells cs T f)->(T=257\/T=3\/T=259)->(x.2.1.ownBlock=some g\/x.2.2.1.ownBlock=some g\/x.2.2.2.ownBlock=some g)->w'.heap[g]? =w.heap[g]?):kj w' x:=by
 have f:∀{T:TypeId} {size:Nat} {v:ag} {n:Nat} {xs:List ag},w.ownsRow 0 T size v n xs->(∀g cs f,w.heap[g]? =some (.cells cs T f)->v.ownBlock=some g->w'.heap[g]? =w.heap[g]?)->w'.ownsRow 0 T size v n xs:=by
  intro T size v n xs h k;exact JJ
 exact ⟨f h.g (fun g cs f I ho=>k g cs _ f I (.inl rfl) (.inl ho)),f h.p (fun g cs f I ho=>k g cs _ f I (.inr (.inl rfl)) (.inr (.inl ho))),f h.s (fun g cs f I ho=>k g cs _ f I (.inr (.inr rfl)) (.inr (.inr ho)))⟩
theorem o9(h:w.ownsRow base T size v n xs)(k:∀g cs f,w.heap[g]? =some (.cells cs T f)->v.ownBlock=some g->w'.heap[g]? =w.heap[g]?):w'.ownsRow base T size v n xs:=by
 exact JJ
theorem zp(A:w.ownsRow base T size v n xs)(k:v.ownBlock=some g):∃h,aB w g h T:=by
 rcases A.2 with ⟨e,_⟩|⟨g',cap,h,h1,h2,C,D⟩
 ·rw [e] at k;cases k
 rw [h1] at k;simp only [Value.ownBlock,aK] at k;subst k;exact ⟨h,C⟩
structure rQ(base b:Nat)(s:ae)(tv:ag)(d:Nat)(kv rv pv:ag)(i:Nat)(pl:List PV)(l:List PX)(w:af)(kd:Nat)(wr:af)(kM:ag)(j e aa:Nat)(fw:List PV)(lr:List PX)(ps:List Nat)(pa:Option Addr)(pc:Nat)(eg:List Tk)(sa:Option Addr)(sc:Nat):Prop where
 fr:Fr base b w wr pv kM
 rs:RS wr b s tv j d e aa kv rv kM
 pt:PT base wr kM fw lr
 box:aB wr w.heap.size #[.int .i64 kd,.slice none 0 0,.string ⟨#[]⟩,.string ⟨#[]⟩,.int .i64 (PP s i),.int .i64 0,.slice pa ps.length pc,.slice sa eg.length sc] 255
 nb:kM.ownBlock≠some w.heap.size
 prow:wr.ownsRow w.heap.size 3 1 (.slice pa ps.length pc) ps.length (ps.map fun n:Nat=> .int .i64 n)
 srow:wr.ownsRow w.heap.size 259 3 (.slice sa eg.length sc) eg.length (br eg)
 dp:∀x∈lr,u4 (Value.slice pa ps.length pc).ownBlock x
 ds:∀x∈lr,u4 (Value.slice sa eg.length sc).ownBlock x
 sfx:∃t,fw=pl++t
 new:∃tl,lr=l++tl/\∀x∈tl,jh w.heap.size x
 blt:b<w.heap.size
 tvl:∀g,tv.ownBlock=some g->g<w.heap.size
theorem rQ.below{e}(h:rQ base b s tv d kv rv pv i pl l w kd wr kM j e aa fw lr ps pa pc eg sa sc)(k:Below wr.heap.size wr w')(C:base<=wr.heap.size)(D:base<=b):rQ base b s tv d kv rv pv i pl l w kd w' kM j e aa fw lr ps pa pc eg sa sc:=
 ⟨h.fr.trans (Fr.of_below k C),h.rs.below k,h.pt.but (But.of_below k) h.rs.blk D C,h.box.below k,h.nb,ax h.prow (fun g cs f _ A=>k.block g (lt_of_some A)),ax h.srow (fun g cs f _ A=>k.block g (lt_of_some A)),h.dp,h.ds,h.sfx,h.new,h.blt,h.tvl⟩
theorem rQ.but{e}(C:rQ base b s tv d kv rv pv i pl l w kd wr kM j e aa fw lr ps pa pc eg sa sc)(k:But b wr w')(D:base<=wr.heap.size)(I:base<=b){j' Ti}(r:RS w' b s tv j' d e' Ti kv rv kM):rQ base b s tv d kv rv pv i pl l w kd w' kM j' e' Ti fw lr ps pa pc eg sa sc:=
 have f:=Fr.of_but (pv:=kM) k I D
 ⟨C.fr.trans f,r,C.pt.but k C.rs.blk I D,C.box.but k (by have:=C.blt;omega),C.nb,f.row C.prow C.rs.blk C.pt.row ar ar,f.row C.srow C.rs.blk C.pt.row ar ar,C.dp,C.ds,C.sfx,C.new,C.blt,C.tvl⟩
theorem rQ.call{e:Nat}{I:ag}{R e1 J:Nat}{P0 t:List PV}{l1 tl:List PX}(C:rQ base b s tv d kv rv pv i pl l w kd wr kM j e aa fw lr ps pa pc eg sa sc)(f:Fr base b wr w1 kM I)(p:PT base w1 I (fw++t) (lr++tl))(r:RS w1 b s tv R d e1 J kv rv I)(Q:∀x∈tl,jh wr.heap.size x):rQ base b s tv d kv rv pv i pl l w kd w1 I R e1 J (fw++t) (lr++tl) ps pa pc eg sa sc:=by
 have V:=C.box.lt;have O:∀{T:TypeId} {size:Nat} {v:ag} {n:Nat} {xs:List ag},wr.ownsRow w.heap.size T size v n xs->(∀x∈lr,u4 v.ownBlock x)->∀x∈lr++tl,u4 v.ownBlock x:=by
  intro T size v n xs ho ha x D;rw [aT] at D
  rcases D with D|D
  ·exact ha x D
  intro g U e;have:=(ho.lt g e).2;have:=Q x D g U;omega
 refine ⟨C.fr.trans f,r,p,f.blk C.box (by have:=C.blt;omega) C.nb,fun e=> ?_,f.row C.prow C.rs.blk C.pt.row ar ar,f.row C.srow C.rs.blk C.pt.row ar ar,O C.prow C.dp,O C.srow C.ds,?_,?_,C.blt,C.tvl⟩
 ·rcases f.own _ e with e|e
  ·exact C.nb e
  omega
 ·obtain ⟨t0,e⟩:=C.sfx;exact ⟨t0++t,by rw [e,eI]⟩
 obtain ⟨t0,e,k⟩:=C.new;refine ⟨t0++tl,by rw [e,eI],fun x D=> ?_⟩;rw [aT] at D
 rcases D with D|D
 ·exact k x D
 exact (Q x D).mono aj
variable {row:Option Nat}
theorem rQ.grow{e u}(C:rQ base b s tv d kv rv pv i pl l w kd wr kM j e aa fw lr ps pa pc eg sa sc)(ab:base<=wr.heap.size)(ac:base<=b)(Q:base<=w.heap.size)(R:(wr.alloc o).grownBy w5 row)(O:∀k,row=some k->w.heap.size<=k)(n1:row≠some b)(n2:row≠some w.heap.size)(ai:∀k,kM.ownBlock=some k->row≠some k)(aj:∀x∈lr,u4 row x):
  Fr base b w (w5.setCell ⟨w.heap.size,c,none⟩ u) pv kM/\RS (w5.setCell ⟨w.heap.size,c,none⟩ u) b s tv j d e aa kv rv kM/\PT base (w5.setCell ⟨w.heap.size,c,none⟩ u) kM fw lr/\aB w5 w.heap.size #[.int .i64 kd,.slice none 0 0,.string ⟨#[]⟩,.string ⟨#[]⟩,.int .i64 (PP s i),.int .i64 0,.slice pa ps.length pc,.slice sa eg.length sc] 255:=by
 have Y:Below wr.heap.size wr (wr.alloc o):=ba.alloc az _;have H:=C.below Y ab ac;have keep:∀g,g<(wr.alloc o).heap.size->row≠some g->w5.heap[g]? =(wr.alloc o).heap[g]? :=fun g J ah=>R.block g J (fun e=>ah e.symm)
 have U:aB w5 w.heap.size #[.int .i64 kd,.slice none 0 0,.string ⟨#[]⟩,.string ⟨#[]⟩,.int .i64 (PP s i),.int .i64 0,.slice pa ps.length pc,.slice sa eg.length sc] 255:=(keep _ H.box.lt n2).trans H.box;have Z:=(keep _ H.rs.blk.lt n1).trans H.rs.blk;have af:b≠w.heap.size:=by have:=C.blt;omega
 refine ⟨⟨(dc H.fr.below R (aL Q H.fr.below.size) (fun k ae=>aL Q (O k ae))).setCell Q _,fun g J ad ag=> ?_,C.fr.own⟩,⟨aB.other Z af _,?_,C.rs.gd,C.rs.fm,C.rs.sz⟩,⟨C.pt.fst,?_,fun x V=> ?_⟩,U⟩
 ·have e1:g≠w.heap.size:=by omega
  exact (dP _ _ _ _ e1).trans ((keep g (cg J H.fr.below.size) (fun e=>by have:=O g e;omega)).trans (H.fr.keep g J ad ag))
 ·refine bJ (T:=255) ?_ U ar _ _;refine o9 H.rs.tok (fun g cs f D ho=>keep g (lt_of_some D) (fun e=> ?_));have:=C.tvl g ho;have:=O g e;omega
 ·refine xv ?_ C.nb _;exact o9 H.pt.row (fun g cs f D ho=>keep g (lt_of_some D) (ai g ho))
 ·refine (H.pt.rep x V).keep (fun g cs T f D I ho=> ?_);have e1:g≠w.heap.size:=fun e=>by
   subst e;have:=H.box;unfold aB at this;rw [this] at D;simp only [aK,s3] at D
   rcases I with I|I|I<;>rw [I] at D<;>exact absurd D.2.1 ar
  exact (dP _ _ _ _ e1).trans (keep g (lt_of_some D) (aj x V g ho))
theorem rQ.sign{e}(C:rQ base b s tv d kv rv pv i pl l w kd wr kM j e aa fw lr ps pa pc eg sa sc)(V:base<=w.heap.size)(S:aB wr (w.heap.size+1) cs 259)(ns:(Value.slice sa eg.length sc).ownBlock≠some (w.heap.size+1))(da:∀x∈lr,u4 (some (w.heap.size+1)) x)(c u):rQ base b s tv d kv rv pv i pl l w kd (wr.setCell ⟨w.heap.size+1,c,none⟩ u) kM j e aa fw lr ps pa pc eg sa sc:=by
 have Q:=C.blt;refine ⟨⟨C.fr.below.setCell (show base<=w.heap.size+1 by omega) _,fun g I J O=> ?_,C.fr.own⟩,⟨C.rs.blk.other (show b≠w.heap.size+1 by omega) _,?_,C.rs.gd,C.rs.fm,C.rs.sz⟩,⟨C.pt.fst,bJ C.pt.row S ar _ _,fun x D=> ?_⟩,C.box.other (show w.heap.size≠w.heap.size+1 by omega) _,C.nb,bJ C.prow S ar _ _,xv C.srow ns _,C.dp,C.ds,C.sfx,C.new,C.blt,C.tvl⟩
 ·exact (dP _ _ _ _ (show g≠w.heap.size+1 by omega)).trans (C.fr.keep g I J O)
 ·refine xv C.rs.tok (fun e=> ?_) _;have:=C.tvl (w.heap.size+1) e;omega
 exact (C.pt.rep x D).keep (fun g cs T f R U ho=>dP _ _ _ _ (fun e=>da x D g ho (by rw [e])))
theorem zr{e}(D:rQ base b s tv d kv rv pv i pl l w kd wr kM j e aa fw lr ps pa pc eg sa sc)(C:v.ownBlock=some g5\/g5=wr.heap.size+1)(k:∀x∈lr,u4 v.ownBlock x):∀x∈lr,u4 (Value.slice (some ⟨g5,0,none⟩) m aV).ownBlock x:=fun x A g h e=>by
 simp only [Value.ownBlock,aK] at e;subst e
 rcases C with e|e
 ·exact k x A g5 h e
 have:=(D.pt.rep x A).lt g5 h;omega
theorem rQ.grownP{e}(C:rQ base b s tv d kv rv pv i pl l w kd wr kM j e aa fw lr ps pa pc eg sa sc)(J:base<=wr.heap.size)(O:base<=b)(Y:base<=w.heap.size)(I:(wr.alloc o).grownBy w5 (Value.slice pa ps.length pc).ownBlock)(U:w5.ownsRow w.heap.size 3 1 (.slice (some ⟨g5,0,none⟩) (ps.length+1) aV) (ps.length+1) ((ps.map fun n:Nat=>Value.int .i64 n)++[.int .i64 m]))(R:(Value.slice pa ps.length pc).ownBlock=some g5\/g5=wr.heap.size+1):
  aB w5 w.heap.size #[.int .i64 kd,.slice none 0 0,.string ⟨#[]⟩,.string ⟨#[]⟩,.int .i64 (PP s i),.int .i64 0,.slice pa ps.length pc,.slice sa eg.length sc] 255/\rQ base b s tv d kv rv pv i pl l w kd (w5.setCell ⟨w.heap.size,6,none⟩ (.slice (some ⟨g5,0,none⟩) (ps.length+1) aV)) kM j e aa fw lr (ps++[m]) (some ⟨g5,0,none⟩) aV eg sa sc:=by
 have el:(ps++[m]).length=ps.length+1:=an;have V:Below wr.heap.size wr (wr.alloc o):=ba.alloc az _;have H:=C.below V J O;obtain ⟨f1,f2,f3,f4⟩:=C.grow (u:=.slice (some ⟨g5,0,none⟩) (ps.length+1) aV) (c:=6) J O Y I (fun k D=>(C.prow.lt k D).1) (gC C.prow C.rs.blk ar) (gC C.prow C.box ar) (fun k D=>by
  obtain ⟨Z,hc⟩:=zp C.pt.row D;exact gC C.prow hc ar) C.dp
 refine ⟨f4,f1,f2,f3,?_,C.nb,?_,?_,?_,C.ds,C.sfx,C.new,C.blt,C.tvl⟩
 ·rw [el];exact f4.set 6 _
 ·rw [el,List.map_append];exact bJ U f4 ar _ _
 ·refine bJ ?_ f4 ar _ _;exact o9 H.srow (fun g cs f Q ho=>I.block g (lt_of_some Q) (eo H.prow Q ar))
 ·rw [el];exact zr C R C.dp
theorem rQ.grownS{e}(C:rQ base b s tv d kv rv pv i pl l w kd wr kM j e aa fw lr ps pa pc eg sa sc)(J:base<=wr.heap.size)(O:base<=b)(Y:base<=w.heap.size)(I:(wr.alloc o).grownBy w5 (Value.slice sa eg.length sc).ownBlock){t}(U:w5.ownsRow w.heap.size 259 3 (.slice (some ⟨g5,0,none⟩) (eg.length+1) aV) (eg.length+1) (br eg++eZ t))(R:(Value.slice sa eg.length sc).ownBlock=some g5\/g5=wr.heap.size+1):
  aB w5 w.heap.size #[.int .i64 kd,.slice none 0 0,.string ⟨#[]⟩,.string ⟨#[]⟩,.int .i64 (PP s i),.int .i64 0,.slice pa ps.length pc,.slice sa eg.length sc] 255/\rQ base b s tv d kv rv pv i pl l w kd (w5.setCell ⟨w.heap.size,7,none⟩ (.slice (some ⟨g5,0,none⟩) (eg.length+1) aV)) kM j e aa fw lr ps pa pc (eg++[t]) (some ⟨g5,0,none⟩) aV:=by
 have el:(eg++[t]).length=eg.length+1:=an;have V:Below wr.heap.size wr (wr.alloc o):=ba.alloc az _;have H:=C.below V J O;obtain ⟨f1,f2,f3,f4⟩:=C.grow (u:=.slice (some ⟨g5,0,none⟩) (eg.length+1) aV) (c:=7) J O Y I (fun k D=>(C.srow.lt k D).1) (gC C.srow C.rs.blk ar) (gC C.srow C.box ar) (fun k D=>by
  obtain ⟨Z,hc⟩:=zp C.pt.row D;exact gC C.srow hc ar) C.ds
 refine ⟨f4,f1,f2,f3,?_,C.nb,?_,?_,C.dp,?_,C.sfx,C.new,C.blt,C.tvl⟩
 ·rw [el];exact f4.set 7 _
 ·refine bJ ?_ f4 ar _ _;exact o9 H.prow (fun g cs f Q ho=>I.block g (lt_of_some Q) (eo H.srow Q ar))
 ·rw [el];unfold br;rw [cX];have:=bJ U f4 ar 7 (.slice (some ⟨g5,0,none⟩) (eg.length+1) aV)
  simpa [br] using this
 ·rw [el];exact zr C R C.ds
end
def JK (C:aF:=by
 rw [List.map_append];exact cf.snoc (Tr.le _ aj k) _ _ (cf.mono (fun n x D=>Tr.le _ aj (Tr.more pl t g _ _ D)) _ _ h2)):aF:=C
def P1(h:Option (Ex×ae×Nat))(y:Ex):Ex:=match h with
 |none=>y
 |some (x,t,p)=>fV t p x y
def lZ(T:Nat->ae)(P:Nat->Nat)(signs:List ae)(part:Nat->eC Ex)(k:Nat)(h:Option (Ex×ae×Nat))(j:Nat):eC Ex:=match part j with
 | .error e=> .error e
 | .ok (y,m)=>joinL T P signs part k (P1 h y) m
theorem s7(T P signs part i):eG T P signs part i=lZ T P signs part 512 none i:=by
 unfold eG lZ
 cases part i with
 |error e=>rfl
 |ok y=>rfl
theorem pd{T P part prev}{e:Nat×Nat}(h:part j=.error e):lZ T P signs part k prev j=.error e:=by unfold lZ;rw [h]
theorem rR{T P part prev y}(h:part j=.ok (y,m)):lZ T P signs part k prev j=joinL T P signs part k (P1 prev y) m:=by unfold lZ;rw [h]
theorem qd{T P part x}(h:gz (T j) signs=true):joinL T P signs part (k+1) x j=lZ T P signs part k (some (x,T j,P j)) (j+1):=by
 simp only [joinL,h,if_true];unfold lZ
 cases part (j+1) with
 |error e=>rfl
 |ok y=>rfl
theorem zt{T P part x}(h:gz (T j) signs=false):joinL T P signs part (k+1) x j=.ok (x,j):=by
 simp [joinL,h]
theorem ov:∀(rs:List (ae×Nat×Ex)) (h:Ex) (t:ae) (p:Nat) (y:Ex),dl h (rs++[(t,p,y)])=fV t p (dl h rs) y
 | [],_,_,_,_=>rfl
 |(t',p',y')::rs,h,t,p,y=>by
  simp only [List.cons_append,dl];exact ov rs _ t p y
theorem cf.snoc{R m y}(k:R m y):∀(ns:List Nat)(xs:List Ex),cf R ns xs->cf R (ns++[m]) (xs++[y])
 | [],[],_=>⟨k,trivial⟩
 |n::ns,x::xs,h=>⟨h.1,cf.snoc k ns xs h.2⟩
 | [],_::_,h=>h.elim
 |_::_,[],h=>h.elim
def Tj:Tk:=⟨[],0,false⟩
def sgnT(r:ae×Nat×Ex):Tk:=⟨bW r.1,r.2.1,false⟩
def j7(pl:List PV)(ps:List Nat)(eg:List Tk)(x:Ex):Prop:=
 ∃h ns A rs f,ps=h::ns/\Tr pl f h A/\cf (Tr pl f) ns (rs.map fun r=>r.2.2)/\eg=Tj::rs.map sgnT/\(∀r∈rs,r.1=sg 38\/r.1=sg 45)/\x=dl A rs
theorem j7.one{y}(h:Tr pl f m y):j7 pl [m] [Tj] y:=⟨m,[],y,[],f,rfl,h,trivial,rfl,by simp,rfl⟩
theorem j7.snoc{t x}(J:j7 pl ps eg x){y}(k:Tr (pl++t) f m y)(tt p)(Q:tt=sg 38\/tt=sg 45):j7 (pl++t) (ps++[m]) (eg++[⟨bW tt,p,false⟩]) (fV tt p x y):=by
 obtain ⟨R,ns,U,rs,g,rfl,h1,h2,rfl,O,rfl⟩:=J;refine ⟨R,ns++[m],U,rs++[(tt,p,y)],g+f,rfl,Tr.le _ aj (Tr.more pl t g _ _ h1),?_,?_,?_,?_⟩
 ·exact JK
 ·rw [List.map_append];rfl
 ·intro r I
  rcases aT.1 I with I|I
  ·exact O r I
  rw [aR] at I;subst I;exact Q
 rw [ov]
theorem j7.chain{x}(h:j7 pl ps eg x)(C:ps.length≠1)(p):∃f,Tr (pl++[⟨4,[],em,em,p,0,ps,eg⟩]) f pl.length x:=by
 obtain ⟨D,ns,I,rs,g,rfl,h1,h2,rfl,A,rfl⟩:=h;refine ⟨g+1,_,s6,.inr (.inr (.inr (.inl ⟨rfl,rfl,D,ns,I,rs,rfl,Tr.more pl _ g _ _ h1,cf.mono (Tr.more pl _ g) _ _ h2,rfl,⟨A,?_⟩,rfl⟩)))⟩;rintro rfl
 cases ns with
 |nil=>exact C rfl
 |cons n ns=>exact h2.elim
theorem j7.alone{x:Ex}(h:j7 pl [m] eg x):∃f,Tr pl f m x:=by
 obtain ⟨A,ns,C,rs,g,e,h1,h2,rfl,_,rfl⟩:=h;simp only [ke] at e;obtain ⟨rfl,rfl⟩:=e
 cases rs with
 |nil=>exact ⟨g,h1⟩
 |cons r rs=>exact h2.elim
abbrev JL(a0:Int):Obj:=.cells #[.int .i64 4,.slice none 0 0,.string ⟨#[]⟩,.string ⟨#[]⟩,.int .i64 a0,.int .i64 0,.slice none 0 0,.slice none 0 0] 255
def vC (A:aF:=by
 simpa using SS.u):aF:=A
def P2 (Q:aF:=by
 rintro e' wf ⟨pv',rfl,fr,D,C⟩;have I:=ai (ji.u.fr.trans fr);have O:=ai D;have J:=ai C;clear fr D C p0 p1 p2 p3 p4 p5 p6 p7;go_wp2;go_ret;rw [P3.u];obtain ⟨t,rfl⟩:=ji.u.sfx;obtain ⟨tl,rfl,R⟩:=ji.u.new;exact ⟨_,rfl,pv',_,_,t++[_],tl++[_],I.u,J.u,by rw [eI],by rw [eI],fun x A=>by
  rw [aT,aR] at A
  rcases A with A|rfl
  ·exact R x A
  exact FX.u,he,j,hij,O.u,by simp at hn ⊢;omega⟩):aF:=Q
def P4 (C:aF:=by
 obtain ⟨m,rfl⟩:=List.length_eq_one_iff.1 h1;obtain ⟨Q,p1,p2,R,U,V,Y,Z⟩:=ji.u.box.eight;obtain ⟨O,J,A,I⟩:=aZ ji.u.prow 0 (.int .i64 m) rfl;simp only [aI] at A;obtain ⟨rfl,_,rfl⟩:=A;clear h1;go_wp2;go_ret;rw [P3.u];obtain ⟨t,rfl⟩:=ji.u.sfx;obtain ⟨tl,rfl,D⟩:=ji.u.new;exact ⟨m,rfl,kM,_,_,t,tl,ji.u.fr,ji.u.pt,rfl,rfl,D,ji.u.rs,hij,hn,HB.u.alone⟩):aF:=C
def P5 (D:aF:=by
 obtain ⟨m,rfl⟩:=List.length_eq_one_iff.1 h1;obtain ⟨R,p1,p2,U,V,Y,Z,ab⟩:=ji.u.box.eight;obtain ⟨Q,O,C,J⟩:=aZ ji.u.prow 0 (.int .i64 m) rfl;simp only [aI] at C;obtain ⟨rfl,_,rfl⟩:=C;clear h1;go_wp2;go_ret;rw [P3.u];obtain ⟨t,rfl⟩:=ji.u.sfx;obtain ⟨tl,rfl,I⟩:=ji.u.new;exact ⟨m,rfl,kM,_,_,t,tl,ji.u.fr,ji.u.pt,rfl,rfl,I,he,j,hij,ji.u.rs,aj⟩):aF:=D
def P6 (C:aF:=by
 have D:512<=fu+(j1+1):=aj;clear c1 c2 c3 c4 c5 S1 S2 S3 S5 WF;go_wp2
 go_roundg fu
 case measure=>omega
 case rel=>exact ⟨true,EM,j1+1,0,a,fw++t,lr++tl,ps++[m],some ⟨g5,0,none⟩,aV,eg++[⟨bW st,sp,false⟩],some ⟨g7,0,none⟩,rI,TT s j1,PP s j1,rfl,J9.u,(fun _=>D),PC⟩):aF:=C
def JM (C:aF:=by
 intro u A;simp only [eZ,bA,fG,fH] at A
 rcases A with rfl|rfl|rfl<;>rfl):aF:=C
def ow (D:aF:=by
 exact JN):aF:=D
def JO (C:aF:=by
 have:=own_ne u5.u.rs.tok u5.u.rs.blk ar;rw [E9.u,e] at this;exact this rfl):aF:=C
def JN (C:aF:=by
 intro u A;simp only [bA,fG,fH] at A
 rcases A with rfl
 rfl):aF:=C
theorem rS{a c}(h:eqs a c=true):a=c:=by
 unfold eqs at h;rw [dL] at h;rw [<-gh a,<-gh c,h]
def Tl(T:Nat->ae)(P:Nat->Nat)(signs:List ae)(part:Nat->eC Ex)(i a ex n:Nat)(h:eC Ex)(k:Nat)(more:Bool)(j e aa:Nat)(fw:List PV)(ps:List Nat)(eg:List Tk)(st:ae)(C:Nat):Prop:=
 (more=true/\e=0/\a=aa/\fw.length+i<=n+j/\((i=j/\ps=[]/\eg=[]/\st=em/\C=0/\lZ T P signs part k none j=h)\/(i<j/\fw.length+i+1<=n+j/\(st=sg 38\/st=sg 45)/\∃x,j7 fw ps eg x/\lZ T P signs part k (some (x,st,C)) j=h)))\/
 (more=false/\e=0/\a=aa/\fw.length+i<=n+j/\i<j/\(ps.length≠1->fw.length+i+1<=n+j)/\∃x,j7 fw ps eg x/\h=.ok (x,j))\/
 (more=false/\e≠0/\fw.length+i<=n+j+ex/\i<=j/\ps≠ []/\∃A,P A=aa/\h=.error (e,A))
structure SU(base b:Nat)(s:ae)(tv:ag)(d:Nat)(kv rv pv:ag)(i:Nat)(pl:List PV)(l:List PX)(w:af)(wr:af)(kM:ag)(j e aa:Nat)(fw:List PV)(lr:List PX)(ps:List Nat)(pa:Option Addr)(pc:Nat)(eg:List Tk)(sa:Option Addr)(sc:Nat)(st:ae)(sp:Nat):Prop where
 ch:rQ base b s tv d kv rv pv i pl l w 4 wr kM j e aa fw lr ps pa pc eg sa sc
 sb:aB wr (w.heap.size+1) #[.string st,.int .i64 sp,.bool false] 259
 ns:(Value.slice sa eg.length sc).ownBlock≠some (w.heap.size+1)
 lp:e=0->ps.length<=j
 ls:eg.length=ps.length
 da:∀x∈lr,u4 (some (w.heap.size+1)) x
theorem Tryz.infoInt:(Tryz.prog.info? 3).map (fun i=>(i.zero,i.size,i.bytes))=some (some (.int .i64 0),1,8):=by kernel_rfl
theorem Co(base b s tv i d a kv rv pv pl l w)(ah:RS w b s tv i d 0 a kv rv pv)(cS:PT base w pv pl l)(am:base<=b)(ac:base<=w.heap.size)(dQ:pl.length<=i)(room inner ex)(hex:ex<=900)(dq:room=true->d<4/\o8 s inner (d+1) ex)(df:room=false->d=4):
  Calls prog 251 #[.pointer (some ⟨b,0,none⟩)] w (kL base b s tv i d a kv rv pv pl l w (ex+2) (gY (TT s) (PP s) room inner i)):=by
 obtain ⟨c6,cQ,cU,cV,cW⟩:=bH Tryz.infoInt;have cJ:=ai cQ;have cK:=ai cU;have cL:=ai cV;have cM:=ai cW;clear cQ cU cV cW;obtain ⟨i0,cP,cX,cY,cZ⟩:=bH Tryz.infoTk;have cC:=ai cP;have cE:=ai cX;have cF:=ai cY;have cH:=ai cZ;clear cP cX cY cZ;generalize bV:gY (TT s) (PP s) room inner i=aW;unfold gY at bV;rw [s7] at bV;have bR:=ai bV;have b4:=ai ah;have b8:=ai cS;obtain ⟨g,c,e0,hi,t0,t1,t2⟩:=ah.at;obtain ⟨a8,b0,cu,r3,cw,dH,dI,dJ⟩:=ah.blk.eight;have dt:=ah.blk.fz;have dl:=ah.lt;have dN:=ai e0;rw [e0] at a8;have dP:=cI t0;have dD:=bj w _ a8;have dE:=bj w _ b0;have dF:=bj w _ t1;clear ah cS e0 bV;go_enter func251,ntmps251;go_wp2_with fail
 go_region_held3 (fun w'=>w'.cell? ⟨b,0,none⟩=some (.slice (some ⟨g,0,none⟩) (g2 s).length c)/\w'.cell? ⟨b,1,none⟩=some (.int .i64 i)/\w'.cell? ⟨g,i*3+1,none⟩=some (.int .i64 (PP s i))) (go_keep) (fail)
 rename_i bo;clear bo a8 b0 cu r3 cw dH dI dJ t0 t1 t2 dD dE dF dt;have b1:Below w.heap.size w (((w.alloc (JL (PP s i))).alloc fF).drew):=(((aw _ w).alloc az _).alloc an _).drew;have bS:=ai (show SU base b s tv d kv rv pv i pl l w (((w.alloc (JL (PP s i))).alloc fF).drew) pv i 0 a pl l [] none 0 [] none 0 em 0 from
  ⟨⟨Fr.of_below b1 ac,b4.u.below b1,b8.u.but (But.of_below (b:=b) b1) b4.u.blk am ac,((aB.new w _ _).alloc _).drew,fun e=>by
    have:=(b8.u.row.lt _ e).2;omega,bN,bN,fun x af g ad e=>(by cases e),fun x af g ad e=>(by cases e),⟨[],an⟩,⟨[],an⟩,dl,fun g ad=>(b4.u.tok.lt g ad).2⟩,
   (aB.new' (w.alloc _) _ _ _ an).drew,fun e=>(by cases e),fun _=>an,rfl,fun x af g ad e=>by
    have:=(b8.u.rep x af).lt g ad;simp only [aK] at e;omega⟩)
 clear b1;go_wp2_with fail
 go_loopg [5] 512 (fun k dK wr=>∃(more:Bool)(kM:ag)(j e aa:Nat)(fw:List PV)(lr:List PX)(ps:List Nat)(pa:Option Addr)(pc:Nat)(eg:List Tk)(sa:Option Addr)(sc:Nat)(st:ae)(sp:Nat),dK=.bool more/\SU base b s tv d kv rv pv i pl l w wr kM j e aa fw lr ps pa pc eg sa sc st sp/\(more=true->512<=k+j)/\Hid (Tl (TT s) (PP s) [sg 38,sg 45] (eQ (TT s) (PP s) room inner) i a (ex+1) pl.length aW k more j e aa fw ps eg st sp))
 case atStart=>exact ⟨true,pv,i,0,a,pl,l,[],none,0,[],none,0,em,0,rfl,bS.u,(fun _=>aj),ai (.inl ⟨rfl,rfl,rfl,aj,.inl ⟨rfl,rfl,rfl,rfl,rfl,bR.u⟩⟩)⟩
 case round=>
  obtain ⟨more,kM,j,e,aa,fw,lr,ps,pa,pc,eg,sa,sc,st,sp,rfl,au,bZ,bQ⟩:=hrel;have dR:=au.ch.rs.gd.le;have dS:=au.ch.rs.sz;have bX:base<=wr.heap.size:=aL ac au.ch.fr.below.size
  rcases ak bQ with ⟨rfl,rfl,rfl,hn,hs⟩|⟨rfl,rfl,rfl,hn,hij,bs,x,cN,aO⟩|⟨rfl,he,hn,hij,cR,aU,rfl,aO⟩
  ·have bZ:=bZ rfl;obtain ⟨fu,rfl⟩:∃f,gk=f+1:=⟨gk-1,aj⟩;have b7:=ai hs;have C:=ai (Gw base b s tv j d a kv rv kM fw lr wr au.ch.rs au.ch.pt am bX aj room inner ex dq df);have aJ:=ai au;have lp:=au.lp rfl;have hij:i<=j:=by rcases hs with ⟨ah,_⟩|⟨ah,_⟩<;>omega
   have bT:=ai au.ls;have ls:=Nat.le_of_eq au.ls;clear au bQ hs bR bS;go_wp2_with fail;refine C.u.mono ?_;rintro e' w1 ⟨m,rfl,EM,P0,l1,t,tl,fr,pt,rfl,rfl,bn,aO⟩;have a9:=ai (fr.blk aJ.u.sb aj (gC aJ.u.ch.pt.row aJ.u.sb ar));have bU:=ai aJ.u.ns;have aH:=ai (show ∀x∈lr++tl,u4 (some (w.heap.size+1)) x from fun x af=>by
    rw [aT] at af
    rcases af with af|af
    ·exact aJ.u.da x af
    intro g ad e;have:=bn x af g ad;have:=aJ.u.sb.lt;simp only [aK] at e;omega)
   have cO:base<=w1.heap.size:=aL bX fr.below.size
   cases bc:eQ (TT s) (PP s) room inner j with
   |error er=>
    obtain ⟨c0,aU⟩:=er;rw [bc] at aO;obtain ⟨bY,j1,dj,rs,dm⟩:=aO;have av:=ai (aJ.u.ch.call fr pt rs bn (P0:=[]) (l1:=[]));have bh:=ai bc;clear fr pt rs bn C aJ bc;have ds:=av.u.rs.sz;have dk:=av.u.rs.gd.le;obtain ⟨p0,p1,p2,p3,p4,p5,p6,p7⟩:=av.u.box.eight;obtain ⟨bt,bu,bv⟩:=a9.u.three;have cA:=av.u.box.fz;have dy:=av.u.box.lt;have dz:=a9.u.lt;have bi:=ai av.u.prow;go_wp2_with (at_builtin;go_must (refine bD _ rfl _ _ 29 rfl w.heap.size 3 c6 _ 1 8 underlying29 cJ.u cK.u cL.u cM.u rfl ar (.slice pa ps.length pc) ps.length (ps.map fun n:Nat=> .int .i64 n) rfl ?sN ⟨w1.heap.size,0,none⟩ 1 1 [.int .i64 m] rfl rfl ?k9 ?mx ar ?sO ?hu ?ld (w1.heap.size+1) ?N2 ?pY))
    case sN=>exact bi.u.alloc _
    case k9=>exact bE (B:=w1.heap.size) (cs:=#[.int .i64 m]) (t:=3) (fr:=(0,0)) (aB.new' _ _ _ _ rfl)
    case mx=>
     exact ow
    case sO=>unfold maxLen;omega
    case hu=>omega
    case ld=>simp;omega
    case N2=>simp
    intro g5 aV w5 bp a6 bl dg;obtain ⟨aP,bf⟩:=av.u.grownP cO am ac a6 bp bl;have aY:=ai bf;have ap:=a9.u.alloc (.cells #[.int .i64 m] 3);have a2:=ai (show aB w5 (w.heap.size+1) _ 259 from (a6.block _ ap.lt (own_ne (bi.u.alloc _) ap ar)).trans ap);clear ap;obtain ⟨cx,cy,cz⟩:=a2.u.three;have be:¬(w.heap.size+1=w.heap.size):=aj;have dG:¬(w.heap.size=w.heap.size+1):=aj;have dB:=a2.u.lt;obtain ⟨cj,ck,cl,cm,co,cq,cr,ct⟩:=aP.eight;have zq:=aP.fz;have dA:=aP.lt;clear bp a6 bl aP bf p0 p1 p2 p3 p4 p5 p6 p7 bt bu bv cA;have bk:=ai (show aB (w5.setCell ⟨w.heap.size,6,none⟩ (.slice (some ⟨g5,0,none⟩) (ps.length+1) aV)) (w.heap.size+1) #[.string st,.int .i64 sp,.bool false] 259 from a2.u.other be _);have b9:=ai aY.u.srow;have cg:base<=(w5.setCell ⟨w.heap.size,6,none⟩ (.slice (some ⟨g5,0,none⟩) (ps.length+1) aV)).heap.size:=aL ac aY.u.fr.below.size;go_wp2_with (at_builtin;go_must (refine bD _ rfl _ _ 249 rfl w.heap.size 259 i0 _ 3 32 underlying249 cC.u cE.u cF.u cH.u rfl ar (.slice sa eg.length sc) eg.length (br eg) rfl ?sP ⟨w5.heap.size,0,none⟩ 1 1 (eZ ⟨bW st,sp,false⟩) rfl rfl ?lg ?o5 ar ?xk ?jo ?lh (w5.heap.size+1) ?N3 ?pZ))
    case sP=>exact b9.u.alloc _
    case lg=>exact bE (B:=w5.heap.size) (cs:=#[.string st,.int .i64 sp,.bool false]) (t:=259) (fr:=(0,0)) (aB.new' _ _ _ _ an)
    case o5=>
     exact JM
    case xk=>unfold maxLen;omega
    case jo=>omega
    case lh=>simp;omega
    case N3=>simp
    intro g7 rI bK bq a7 a4 dh;obtain ⟨aQ,bg⟩:=aY.u.grownS cg am ac a7 bq (by simpa using a4);have aD:=ai bg;have ap:=bk.u.alloc (xj st sp);have a3:=ai (show aB bK (w.heap.size+1) _ 259 from (a7.block _ ap.lt (fun e=>bU.u e.symm)).trans ap);obtain ⟨bw,bx,bz,bB,bC,bF,bI,bJ⟩:=aQ.eight;have bP:=aQ.fz;have dC:=aQ.lt;have SS:=ai (show (Value.slice (some ⟨g7,0,none⟩) (eg.length+1) rI).ownBlock≠some (w.heap.size+1) from fun e=>by
     simp only [Value.ownBlock,aK] at e;subst e
     rcases a4 with e|e
     ·exact bU.u e
     omega)
    clear bq a7 a4 aQ bg ap bk cj ck cl cm co cq cr ct zq cx cy cz;have cb:=ai (show aW=.error (c0,aU) from by
     rcases b7.u with ⟨_,_,_,_,_,ah⟩|⟨_,_,_,x,_,ah⟩
     ·rw [<-ah];exact pd bh.u
     rw [<-ah];exact pd bh.u)
    have a5:base<=(bK.setCell ⟨w.heap.size,7,none⟩ (.slice (some ⟨g7,0,none⟩) (eg.length+1) rI)).heap.size:=aL ac aD.u.fr.below.size;go_wp2_with fail;refine (iC b s tv j1 d c0 (PP s aU) kv rv EM (sg 38) _ aD.u.rs bY).mono ?_;rintro e' bL ⟨rfl,aC⟩;have aA:=ai (aD.u.below aC a5 am);have aN:=ai ((a3.u.other be _).below aC);have bb:base<=bL.heap.size:=aL a5 aC.size;clear aC aD a3;go_wp2_with fail;refine (iC b s tv j1 d c0 (PP s aU) kv rv EM (sg 45) _ aA.u.rs bY).mono ?_;rintro e' bO ⟨rfl,ay⟩;have u5:=ai (aA.u.below ay bb am);have ax:=ai (aN.u.below ay);clear ay aA aN;have J9:=ai (show SU base b s tv d kv rv pv i pl l w bO EM j1 c0 (PP s aU) (fw++t) (lr++tl) (ps++[m]) (some ⟨g5,0,none⟩) aV (eg++[⟨bW st,sp,false⟩]) (some ⟨g7,0,none⟩) rI st sp from ⟨u5.u,ax.u,SS.u,fun e=>absurd e bY,by have:=bT.u;simp [this],aH.u⟩);have PC:=ai (show Tl (TT s) (PP s) [sg 38,sg 45] (eQ (TT s) (PP s) room inner) i a (ex+1) pl.length aW fu false j1 c0 (PP s aU) (fw++t) (ps++[m]) (eg++[⟨bW st,sp,false⟩]) st sp from .inr (.inr ⟨rfl,bY,aj,aj,an,aU,rfl,cb.u⟩));clear bw bx bz bB bC bF bI bJ bP;go_wp2
    go_roundg fu
    case measure=>omega
    case rel=>exact ⟨false,EM,j1,c0,PP s aU,fw++t,lr++tl,ps++[m],some ⟨g5,0,none⟩,aV,eg++[⟨bW st,sp,false⟩],some ⟨g7,0,none⟩,rI,st,sp,rfl,J9.u,(fun ah=>by cases ah),PC⟩
   |ok yy=>
    obtain ⟨y,j1⟩:=yy;rw [bc] at aO;obtain ⟨rs,dj,dm,f1,cT⟩:=aO;have av:=ai (aJ.u.ch.call fr pt rs bn (P0:=[]) (l1:=[]));have bh:=ai bc;have TR:=ai cT;clear fr pt rs bn C aJ bc cT;have ds:=av.u.rs.sz;have dk:=av.u.rs.gd.le;obtain ⟨p0,p1,p2,p3,p4,p5,p6,p7⟩:=av.u.box.eight;obtain ⟨bt,bu,bv⟩:=a9.u.three;have cA:=av.u.box.fz;have dy:=av.u.box.lt;have dz:=a9.u.lt;have bi:=ai av.u.prow;go_wp2_with (at_builtin;go_must (refine bD _ rfl _ _ 29 rfl w.heap.size 3 c6 _ 1 8 underlying29 cJ.u cK.u cL.u cM.u rfl ar (.slice pa ps.length pc) ps.length (ps.map fun n:Nat=> .int .i64 n) rfl ?zg ⟨w1.heap.size,0,none⟩ 1 1 [.int .i64 m] rfl rfl ?sQ ?sR ar ?Cf ?li ?sS (w1.heap.size+1) ?Th ?xl))
    case zg=>exact bi.u.alloc _
    case sQ=>exact bE (B:=w1.heap.size) (cs:=#[.int .i64 m]) (t:=3) (fr:=(0,0)) (aB.new' _ _ _ _ rfl)
    case sR=>
     exact ow
    case Cf=>unfold maxLen;omega
    case li=>omega
    case sS=>simp;omega
    case Th=>simp
    intro g5 aV w5 bp a6 bl dg;obtain ⟨aP,bf⟩:=av.u.grownP cO am ac a6 bp bl;have aY:=ai bf;have ap:=a9.u.alloc (.cells #[.int .i64 m] 3);have a2:=ai (show aB w5 (w.heap.size+1) _ 259 from (a6.block _ ap.lt (own_ne (bi.u.alloc _) ap ar)).trans ap);clear ap;obtain ⟨cx,cy,cz⟩:=a2.u.three;have be:¬(w.heap.size+1=w.heap.size):=aj;have dG:¬(w.heap.size=w.heap.size+1):=aj;have dB:=a2.u.lt;obtain ⟨cj,ck,cl,cm,co,cq,cr,ct⟩:=aP.eight;have zq:=aP.fz;have dA:=aP.lt;clear bp a6 bl aP bf p0 p1 p2 p3 p4 p5 p6 p7 bt bu bv cA;have bk:=ai (show aB (w5.setCell ⟨w.heap.size,6,none⟩ (.slice (some ⟨g5,0,none⟩) (ps.length+1) aV)) (w.heap.size+1) #[.string st,.int .i64 sp,.bool false] 259 from a2.u.other be _);have b9:=ai aY.u.srow;have cg:base<=(w5.setCell ⟨w.heap.size,6,none⟩ (.slice (some ⟨g5,0,none⟩) (ps.length+1) aV)).heap.size:=aL ac aY.u.fr.below.size;go_wp2_with (at_builtin;go_must (refine bD _ rfl _ _ 249 rfl w.heap.size 259 i0 _ 3 32 underlying249 cC.u cE.u cF.u cH.u rfl ar (.slice sa eg.length sc) eg.length (br eg) rfl ?hownD ⟨w5.heap.size,0,none⟩ 1 1 (eZ ⟨bW st,sp,false⟩) rfl rfl ?Q9 ?honeD ar ?h63D ?Oa ?Ra (w5.heap.size+1) ?hHD ?hrestD))
    case hownD=>exact b9.u.alloc _
    case Q9=>exact bE (B:=w5.heap.size) (cs:=#[.string st,.int .i64 sp,.bool false]) (t:=259) (fr:=(0,0)) (aB.new' _ _ _ _ an)
    case honeD=>
     exact JM
    case h63D=>unfold maxLen;omega
    case Oa=>omega
    case Ra=>simp;omega
    case hHD=>simp
    intro g7 rI bK bq a7 a4 dh;obtain ⟨aQ,bg⟩:=aY.u.grownS cg am ac a7 bq (by simpa using a4);have aD:=ai bg;have ap:=bk.u.alloc (xj st sp);have a3:=ai (show aB bK (w.heap.size+1) _ 259 from (a7.block _ ap.lt (fun e=>bU.u e.symm)).trans ap);obtain ⟨bw,bx,bz,bB,bC,bF,bI,bJ⟩:=aQ.eight;have bP:=aQ.fz;have dC:=aQ.lt;have SS:=ai (show (Value.slice (some ⟨g7,0,none⟩) (eg.length+1) rI).ownBlock≠some (w.heap.size+1) from fun e=>by
     simp only [Value.ownBlock,aK] at e;subst e
     rcases a4 with e|e
     ·exact bU.u e
     omega)
    clear bq a7 a4 aQ bg ap bk cj ck cl cm co cq cr ct zq cx cy cz;have b2:=ai (show ∃x,j7 (fw++t) (ps++[m]) (eg++[⟨bW st,sp,false⟩]) x/\joinL (TT s) (PP s) [sg 38,sg 45] (eQ (TT s) (PP s) room inner) (fu+1) x j1=aW from by
     rcases b7.u with ⟨_,rfl,rfl,rfl,rfl,ah⟩|⟨_,_,dr,x,af,ah⟩
     ·rw [rR bh.u] at ah;exact ⟨_,j7.one TR.u,ah⟩
     rw [rR bh.u] at ah;exact ⟨_,af.snoc TR.u st sp dr,ah⟩)
    have b6:=ai (show (ps++[m]).length≠1->(fw++t).length+i+1<=pl.length+j1 from fun dn=>by
     rcases b7.u with ⟨_,rfl,_⟩|⟨_,bs,_⟩
     ·exact absurd rfl dn
     omega)
    have a5:base<=(bK.setCell ⟨w.heap.size,7,none⟩ (.slice (some ⟨g7,0,none⟩) (eg.length+1) rI)).heap.size:=aL ac aD.u.fr.below.size
    cases aE:eqs (TT s j1) (sg 38)
    ·go_wp2_with fail;refine (b3 b s tv j1 d a kv rv EM (sg 38) _ aD.u.rs false aE).mono ?_;rintro e' bL ⟨rfl,aC⟩;have aA:=ai (aD.u.below aC a5 am);have aN:=ai ((a3.u.other be _).below aC);have bb:base<=bL.heap.size:=aL a5 aC.size;clear aC aD a3
     cases aG:eqs (TT s j1) (sg 45)
     ·have cb:=ai (show ∃x,j7 (fw++t) (ps++[m]) (eg++[⟨bW st,sp,false⟩]) x/\aW=.ok (x,j1) from by
       obtain ⟨x,af,aX⟩:=b2.u;rw [zt (by simp [gz,aE,aG])] at aX;exact ⟨x,af,aX.symm⟩)
      go_wp2_with fail;refine (b3 b s tv j1 d a kv rv EM (sg 45) _ aA.u.rs false aG).mono ?_;rintro e' bO ⟨rfl,ay⟩;have u5:=ai (aA.u.below ay bb am);have ax:=ai (aN.u.below ay);clear ay aA aN;have J9:=ai (show SU base b s tv d kv rv pv i pl l w bO EM j1 0 a (fw++t) (lr++tl) (ps++[m]) (some ⟨g5,0,none⟩) aV (eg++[⟨bW st,sp,false⟩]) (some ⟨g7,0,none⟩) rI st sp from ⟨u5.u,ax.u,SS.u,fun _=>aM,by have:=bT.u;simp [this],aH.u⟩);have PC:=ai (show Tl (TT s) (PP s) [sg 38,sg 45] (eQ (TT s) (PP s) room inner) i a (ex+1) pl.length aW fu false j1 0 a (fw++t) (ps++[m]) (eg++[⟨bW st,sp,false⟩]) st sp from .inr (.inl ⟨rfl,rfl,rfl,aj,aj,b6.u,cb.u⟩));clear bw bx bz bB bC bF bI bJ bP aE aG;go_wp2
      go_roundg fu
      case measure=>omega
      case rel=>exact ⟨false,EM,j1,0,a,fw++t,lr++tl,ps++[m],some ⟨g5,0,none⟩,aV,eg++[⟨bW st,sp,false⟩],some ⟨g7,0,none⟩,rI,st,sp,rfl,J9.u,(fun ah=>by cases ah),PC⟩
     go_wp2_with fail;refine (b3 b s tv j1 d a kv rv EM (sg 45) _ aA.u.rs true aG).mono ?_;rintro e' bO ⟨rfl,ay⟩;have u5:=ai (aA.u.below ay bb am);have ax:=ai (aN.u.below ay);clear ay aA aN;have b5:=ai (u5.u.rs.gd.succ (cG aG ar));clear bw bx bz bB bC bF bI bJ bP;obtain ⟨al,ce,aS,di,t0,t1,t2⟩:=u5.u.rs.at;obtain ⟨a8,b0,cu,r3,cw,_⟩:=u5.u.rs.blk.eight;have dM:=u5.u.rs.blk.fz;obtain ⟨bt,bu,bv⟩:=ax.u.three;have zs:=ax.u.fz;have dx:=ax.u.lt;have tvl:=u5.u.tvl al (by rw [aS];rfl);rw [aS] at a8;have E9:=ai aS;clear aS;have k1:¬(w.heap.size+1=b):=aj;have du:¬(b=w.heap.size+1):=aj;have k3:¬(w.heap.size+1=al):=aj;have dv:¬(al=w.heap.size+1):=aj;have ci:¬(b=al):=fun e=>by
      exact JO
     have dw:¬(al=b):=fun e=>ci e.symm
     go_wp2_with fail
     go_region_held3 (fun w'=>w'.cell? ⟨b,0,none⟩=some (.slice (some ⟨al,0,none⟩) (g2 s).length ce)/\w'.cell? ⟨b,1,none⟩=some (.int .i64 j1)/\w'.cell? ⟨al,j1*3,none⟩=some (.string (TT s j1))/\w'.cell? ⟨al,j1*3+1,none⟩=some (.int .i64 (PP s j1))/\w'.cell? ⟨al,j1*3+2,none⟩=some (.bool (bM (TT s j1)))) (go_keep) (fail)
     rename_i bo;clear bo;have WF:bM (TT s j1)=false:=by
      have e:=aG;unfold eqs at e;rw [dL] at e;unfold bM;rw [e]
      decide
     have e0:=aL ac u5.u.fr.below.size;have c1:=u5.u.sign ac ax.u vC aH.u 0 (.string (TT s j1));have S1:=ax.u.set 0 (.string (TT s j1));have c2:=c1.sign ac S1 vC aH.u 1 (.int .i64 (PP s j1));have S2:=S1.set 1 (.int .i64 (PP s j1));have c3:=c2.sign ac S2 vC aH.u 2 (.bool (bM (TT s j1)));have S3:=S2.set 2 (.bool (bM (TT s j1)));have c4:=c3.but ((But.refl b _).setCell 1 (.int .i64 ((j1:Int)+1))) (aL ac c3.fr.below.size) am (c3.rs.setI (j1+1) b5.u);have c5:=c4.below (ba.drew) (aL ac c4.fr.below.size) am;have S5:=(aB.other S3 (a:=⟨b,1,none⟩) k1 (.int .i64 ((j1:Int)+1))).drew;have J9:=ai (show SU base b s tv d kv rv pv i pl l w _ EM (j1+1) 0 a (fw++t) (lr++tl) (ps++[m]) (some ⟨g5,0,none⟩) aV (eg++[⟨bW st,sp,false⟩]) (some ⟨g7,0,none⟩) rI (TT s j1) (PP s j1) from ⟨c5,by rw [<-WF];exact S5,SS.u,fun _=>aM,by have:=bT.u;simp [this],aH.u⟩);have PC:=ai (show Tl (TT s) (PP s) [sg 38,sg 45] (eQ (TT s) (PP s) room inner) i a (ex+1) pl.length aW fu true (j1+1) 0 a (fw++t) (ps++[m]) (eg++[⟨bW st,sp,false⟩]) (TT s j1) (PP s j1) from .inl ⟨rfl,rfl,rfl,aj,.inr ⟨aj,aj,(by first|exact .inl (rS aG)|exact .inr (rS aG)),by
      obtain ⟨x,af,aX⟩:=b2.u;rw [qd (by simp [gz,aG])] at aX;exact ⟨x,af,aX⟩⟩⟩)
     exact P6
    have aG:eqs (TT s j1) (sg 45)=false:=by
     unfold eqs at aE ⊢;rw [dL] at aE;rw [aE];decide
    go_wp2_with fail;refine (b3 b s tv j1 d a kv rv EM (sg 38) _ aD.u.rs true aE).mono ?_;rintro e' bL ⟨rfl,aC⟩;have aA:=ai (aD.u.below aC a5 am);have aN:=ai ((a3.u.other be _).below aC);have bb:base<=bL.heap.size:=aL a5 aC.size;clear aC aD a3;go_wp2_with fail;refine (b3 b s tv j1 d a kv rv EM (sg 45) _ aA.u.rs false aG).mono ?_;rintro e' bO ⟨rfl,ay⟩;have u5:=ai (aA.u.below ay bb am);have ax:=ai (aN.u.below ay);clear ay aA aN;have b5:=ai (u5.u.rs.gd.succ (cG aE ar));clear bw bx bz bB bC bF bI bJ bP;obtain ⟨al,ce,aS,di,t0,t1,t2⟩:=u5.u.rs.at;obtain ⟨a8,b0,cu,r3,cw,_⟩:=u5.u.rs.blk.eight;have dM:=u5.u.rs.blk.fz;obtain ⟨bt,bu,bv⟩:=ax.u.three;have zs:=ax.u.fz;have dx:=ax.u.lt;have tvl:=u5.u.tvl al (by rw [aS];rfl);rw [aS] at a8;have E9:=ai aS;clear aS;have k1:¬(w.heap.size+1=b):=aj;have du:¬(b=w.heap.size+1):=aj;have k3:¬(w.heap.size+1=al):=aj;have dv:¬(al=w.heap.size+1):=aj;have ci:¬(b=al):=fun e=>by
     exact JO
    have dw:¬(al=b):=fun e=>ci e.symm
    go_wp2_with fail
    go_region_held3 (fun w'=>w'.cell? ⟨b,0,none⟩=some (.slice (some ⟨al,0,none⟩) (g2 s).length ce)/\w'.cell? ⟨b,1,none⟩=some (.int .i64 j1)/\w'.cell? ⟨al,j1*3,none⟩=some (.string (TT s j1))/\w'.cell? ⟨al,j1*3+1,none⟩=some (.int .i64 (PP s j1))/\w'.cell? ⟨al,j1*3+2,none⟩=some (.bool (bM (TT s j1)))) (go_keep) (fail)
    rename_i bo;clear bo;have WF:bM (TT s j1)=false:=by
     have e:=aE;unfold eqs at e;rw [dL] at e;unfold bM;rw [e]
     decide
    have e0:=aL ac u5.u.fr.below.size;have c1:=u5.u.sign ac ax.u vC aH.u 0 (.string (TT s j1));have S1:=ax.u.set 0 (.string (TT s j1));have c2:=c1.sign ac S1 vC aH.u 1 (.int .i64 (PP s j1));have S2:=S1.set 1 (.int .i64 (PP s j1));have c3:=c2.sign ac S2 vC aH.u 2 (.bool (bM (TT s j1)));have S3:=S2.set 2 (.bool (bM (TT s j1)));have c4:=c3.but ((But.refl b _).setCell 1 (.int .i64 ((j1:Int)+1))) (aL ac c3.fr.below.size) am (c3.rs.setI (j1+1) b5.u);have c5:=c4.below (ba.drew) (aL ac c4.fr.below.size) am;have S5:=(aB.other S3 (a:=⟨b,1,none⟩) k1 (.int .i64 ((j1:Int)+1))).drew;have J9:=ai (show SU base b s tv d kv rv pv i pl l w _ EM (j1+1) 0 a (fw++t) (lr++tl) (ps++[m]) (some ⟨g5,0,none⟩) aV (eg++[⟨bW st,sp,false⟩]) (some ⟨g7,0,none⟩) rI (TT s j1) (PP s j1) from ⟨c5,by rw [<-WF];exact S5,SS.u,fun _=>aM,by have:=bT.u;simp [this],aH.u⟩);have PC:=ai (show Tl (TT s) (PP s) [sg 38,sg 45] (eQ (TT s) (PP s) room inner) i a (ex+1) pl.length aW fu true (j1+1) 0 a (fw++t) (ps++[m]) (eg++[⟨bW st,sp,false⟩]) (TT s j1) (PP s j1) from .inl ⟨rfl,rfl,rfl,aj,.inr ⟨aj,aj,(by first|exact .inl (rS aE)|exact .inr (rS aE)),by
     obtain ⟨x,af,aX⟩:=b2.u;rw [qd (by simp [gz,aE])] at aX;exact ⟨x,af,aX⟩⟩⟩)
    exact P6
  ·have HB:=ai cN;have P3:=ai aO;have b6:=ai bs;have ji:=ai au.ch;have db:=ai au.ls;clear au bQ bR bS cN aO bs bZ
   by_cases h1:ps.length=1
   ·exact P4
   skip
   have cB:=ai h1;have cf:¬((ps.length:Int)=1):=aj;have de:((ps.length:Int)==1)=false:=bG.2 cf;have bs:=b6.u h1;clear h1;obtain ⟨p0,p1,p2,p3,p4,p5,p6,p7⟩:=ji.u.box.eight;have cd:=ai (show kj wr (⟨4,[],em,em,PP s i,0,ps,eg⟩,.slice none 0 0,.slice pa ps.length pc,.slice sa eg.length sc) from ⟨bN,ec ji.u.prow,ec ji.u.srow⟩);have FX:=ai (show jh w.heap.size (⟨4,[],em,em,PP s i,0,ps,eg⟩,.slice none 0 0,.slice pa ps.length pc,.slice sa eg.length sc) from fun g ad=>by
    rcases ad with ad|ad|ad
    ·cases ad
    ·exact (ji.u.prow.lt g ad).1
    exact (ji.u.srow.lt g ad).1)
   go_wp2_with fail;refine (eL base b s tv j d 0 (a) kv rv kM fw lr ⟨4,[],em,em,PP s i,0,ps,eg⟩ none 0 pa pc sa sc wr ji.u.rs ji.u.pt cd.u aj bX am).mono ?_;rintro e' wf ⟨pv',rfl,fr,c8,c7⟩;have c9:=ai (ji.u.fr.trans fr);have dd:=ai c8;have dc:=ai c7;clear fr c8 c7 p0 p1 p2 p3 p4 p5 p6 p7;go_wp2;go_ret;rw [P3.u];obtain ⟨t,rfl⟩:=ji.u.sfx;obtain ⟨tl,rfl,dp⟩:=ji.u.new;exact ⟨_,rfl,pv',_,_,t++[_],tl++[_],c9.u,dc.u,by rw [eI],by rw [eI],fun x af=>by
    rw [aT,aR] at af
    rcases af with af|rfl
    ·exact dp x af
    exact FX.u,dd.u,hij,by simp at bs ⊢;omega,HB.u.chain (by simpa using cB.u) _⟩
  have P3:=ai aO;have dO:=ai cR;have ji:=ai au.ch;have db:=ai au.ls;clear au bQ bR bS aO cR bZ
  by_cases h1:ps.length=1
  ·exact P5
  skip
  have cB:=ai h1;have cf:¬((ps.length:Int)=1):=aj;have de:((ps.length:Int)==1)=false:=bG.2 cf;clear h1;obtain ⟨p0,p1,p2,p3,p4,p5,p6,p7⟩:=ji.u.box.eight;have cd:=ai (show kj wr (⟨4,[],em,em,PP s i,0,ps,eg⟩,.slice none 0 0,.slice pa ps.length pc,.slice sa eg.length sc) from ⟨bN,ec ji.u.prow,ec ji.u.srow⟩);have FX:=ai (show jh w.heap.size (⟨4,[],em,em,PP s i,0,ps,eg⟩,.slice none 0 0,.slice pa ps.length pc,.slice sa eg.length sc) from fun g ad=>by
   rcases ad with ad|ad|ad
   ·cases ad
   ·exact (ji.u.prow.lt g ad).1
   exact (ji.u.srow.lt g ad).1)
  go_wp2_with fail;refine (eL base b s tv j d e (PP s aU) kv rv kM fw lr ⟨4,[],em,em,PP s i,0,ps,eg⟩ none 0 pa pc sa sc wr ji.u.rs ji.u.pt cd.u aj bX am).mono ?_;exact P2
abbrev JP(a0:Int):Obj:=.cells #[.int .i64 5,.slice none 0 0,.string ⟨#[]⟩,.string ⟨#[]⟩,.int .i64 a0,.int .i64 0,.slice none 0 0,.slice none 0 0] 255
theorem Rb{a c}(h:eqs a c=true):a=c:=by
 unfold eqs at h;rw [dL] at h;rw [<-gh a,<-gh c,h]
def iq(pl:List PV)(ps:List Nat)(x:Ex):Prop:=
 ∃h ns A rs f,ps=h::ns/\Tr pl f h A/\cf (Tr pl f) ns (rs.map fun r=>r.2.2)/\(∀r∈rs,r.1=sg 124)/\x=dl A rs
theorem iq.one{y}(h:Tr pl f m y):iq pl [m] y:=⟨m,[],y,[],f,rfl,h,trivial,by simp,rfl⟩
theorem iq.snoc{t x}(J:iq pl ps x){y}(k:Tr (pl++t) f m y)(p):iq (pl++t) (ps++[m]) (fV (sg 124) p x y):=by
 obtain ⟨Q,ns,R,rs,g,rfl,h1,h2,O,rfl⟩:=J;refine ⟨Q,ns++[m],R,rs++[(sg 124,p,y)],g+f,rfl,Tr.le _ aj (Tr.more pl t g _ _ h1),?_,?_,?_⟩
 ·exact JK
 ·intro r I;rw [aT,aR] at I
  rcases I with I|rfl
  ·exact O r I
  rfl
 rw [ov]
theorem iq.some{x}(h:iq pl ps x)(C:ps.length≠1)(p):∃f,Tr (pl++[⟨5,[],em,em,p,0,ps,[]⟩]) f pl.length x:=by
 obtain ⟨D,ns,I,rs,g,rfl,h1,h2,A,rfl⟩:=h;refine ⟨g+1,_,s6,.inr (.inr (.inr (.inr ⟨rfl,rfl,rfl,D,ns,I,rs,rfl,Tr.more pl _ g _ _ h1,cf.mono (Tr.more pl _ g) _ _ h2,A,?_,rfl⟩)))⟩;rintro rfl
 cases ns with
 |nil=>exact C rfl
 |cons n ns=>exact h2.elim
theorem iq.alone{x:Ex}(h:iq pl [m] x):∃f,Tr pl f m x:=by
 obtain ⟨C,ns,D,rs,g,e,h1,h2,A,rfl⟩:=h;simp only [ke] at e;obtain ⟨rfl,rfl⟩:=e
 cases rs with
 |nil=>exact ⟨g,h1⟩
 |cons r rs=>exact h2.elim
def T0(T:Nat->ae)(P:Nat->Nat)(part:Nat->eC Ex)(i a ex n:Nat)(h:eC Ex)(k:Nat)(more:Bool)(j e aa:Nat)(fw:List PV)(ps:List Nat):Prop:=
 (more=true/\e=0/\a=aa/\fw.length+i<=n+j/\((i=j/\ps=[]/\lZ T P [sg 124] part k none j=h)\/(i<j/\fw.length+i+1<=n+j/\∃x p,iq fw ps x/\lZ T P [sg 124] part k (some (x,sg 124,p)) j=h)))\/
 (more=false/\e=0/\a=aa/\fw.length+i<=n+j/\i<j/\(ps.length≠1->fw.length+i+1<=n+j)/\∃x,iq fw ps x/\h=.ok (x,j))\/
 (more=false/\e≠0/\fw.length+i<=n+j+ex/\i<=j/\ps≠ []/\∃A,P A=aa/\h=.error (e,A))
theorem vD(base b s tv i d a kv rv pv pl l w)(ac:RS w b s tv i d 0 a kv rv pv)(bx:PT base w pv pl l)(ap:base<=b)(aE:base<=w.heap.size)(cA:pl.length<=i)(room inner ex)(hex:ex<=800)(b8:room=true->d<4/\o8 s inner (d+1) ex)(bV:room=false->d=4):
  Calls prog 229 #[.pointer (some ⟨b,0,none⟩)] w (kL base b s tv i d a kv rv pv pl l w (ex+3) (eG (TT s) (PP s) [sg 124] (gY (TT s) (PP s) room inner) i)):=by
 obtain ⟨bF,bw,bz,bB,bC⟩:=bH Tryz.infoInt;have bq:=ai bw;have br:=ai bz;have bs:=ai bB;have bt:=ai bC;clear bw bz bB bC;generalize bg:eG (TT s) (PP s) [sg 124] (gY (TT s) (PP s) room inner) i=aH;rw [s7] at bg;have a1:=ai bg;have a9:=ai ac;have bp:=ai bx;obtain ⟨g,c,e0,hi,t0,t1,t2⟩:=ac.at;obtain ⟨a7,bk,bJ,r3,bK,ct,cu,cw⟩:=ac.blk.eight;have cb:=ac.blk.fz;have b2:=ac.lt;have cy:=ai e0;rw [e0] at a7;have cz:=cI t0;have cf:=bj w _ a7;have cg:=bj w _ bk;have ch:=bj w _ t1;clear ac bx e0 bg;go_enter func229,ntmps229;go_wp2_with fail
 go_region_held3 (fun w'=>w'.cell? ⟨b,0,none⟩=some (.slice (some ⟨g,0,none⟩) (g2 s).length c)/\w'.cell? ⟨b,1,none⟩=some (.int .i64 i)/\w'.cell? ⟨g,i*3+1,none⟩=some (.int .i64 (PP s i))) (go_keep) (fail)
 rename_i bX;clear bX a7 bk bJ r3 bK ct cu cw t0 t1 t2 cf cg ch cb;have b1:Below w.heap.size w ((w.alloc (JP (PP s i))).drew):=((aw _ w).alloc az _).drew;have a2:=ai (show rQ base b s tv d kv rv pv i pl l w 5 ((w.alloc (JP (PP s i))).drew) pv i 0 a pl l [] none 0 [] none 0 from
  ⟨Fr.of_below b1 aE,a9.u.below b1,bp.u.but (But.of_below (b:=b) b1) a9.u.blk ap aE,(aB.new w _ _).drew,fun e=>by
    have:=(bp.u.row.lt _ e).2;omega,bN,bN,fun x al g ad e=>(by cases e),fun x al g ad e=>(by cases e),⟨[],an⟩,⟨[],an⟩,b2,fun g ad=>(a9.u.tok.lt g ad).2⟩)
 clear b1;go_wp2_with fail
 go_loopg [4] 512 (fun k cx wr=>∃(more:Bool)(kM:ag)(j e aa:Nat)(fw:List PV)(lr:List PX)(ps:List Nat)(pa:Option Addr)(pc:Nat),cx=.bool more/\rQ base b s tv d kv rv pv i pl l w 5 wr kM j e aa fw lr ps pa pc [] none 0/\(e=0->ps.length<=j)/\(more=true->512<=k+j)/\Hid (T0 (TT s) (PP s) (gY (TT s) (PP s) room inner) i a (ex+2) pl.length aH k more j e aa fw ps))
 case atStart=>exact ⟨true,pv,i,0,a,pl,l,[],none,0,rfl,a2.u,(fun _=>an),(fun _=>aj),ai (.inl ⟨rfl,rfl,rfl,aj,.inl ⟨rfl,rfl,a1.u⟩⟩)⟩
 case round=>
  obtain ⟨more,kM,j,e,aa,fw,lr,ps,pa,pc,rfl,am,a6,a5,aX⟩:=hrel;have cB:=am.rs.gd.le;have cC:=am.rs.sz;have a3:base<=wr.heap.size:=aL aE am.fr.below.size
  rcases ak aX with ⟨rfl,rfl,rfl,hn,hs⟩|⟨rfl,rfl,rfl,hn,hij,aW,x,bu,au⟩|⟨rfl,he,hn,hij,b7,aG,rfl,au⟩
  ·have a5:=a5 rfl;obtain ⟨aA,rfl⟩:∃f,gk=f+1:=⟨gk-1,aj⟩;have bb:=ai hs;have C:=ai (Co base b s tv j d a kv rv kM fw lr wr am.rs am.pt ap a3 aj room inner ex aj b8 bV);have aY:=ai am;have lp:=a6 rfl;have hij:i<=j:=by rcases hs with ⟨ac,_⟩|⟨ac,_⟩<;>omega
   clear am aX hs a1 a2 a6;go_wp2_with fail;refine C.u.mono ?_;rintro e' w1 ⟨m,rfl,aK,P0,l1,t,tl,fr,pt,rfl,rfl,a4,au⟩;have bv:base<=w1.heap.size:=aL a3 fr.below.size
   cases aD:gY (TT s) (PP s) room inner j with
   |error er=>
    obtain ⟨c0,aG⟩:=er;rw [aD] at au;obtain ⟨bh,ae,bY,rs,b4⟩:=au;have af:=ai (aY.u.call fr pt rs a4 (P0:=[]) (l1:=[]));have bS:=ai (show aH=.error (c0,aG) from by
     rcases bb.u with ⟨_,_,ac⟩|⟨_,_,x,p,_,ac⟩
     ·rw [<-ac];exact pd aD
     rw [<-ac];exact pd aD)
    clear fr pt rs a4 C aY aD;have b9:=af.u.rs.sz;have b0:=af.u.rs.gd.le;obtain ⟨p0,p1,p2,p3,p4,p5,p6,p7⟩:=af.u.box.eight;have bl:=af.u.box.fz;have cd:=af.u.box.lt;have bc:=ai af.u.prow;go_wp2_with (at_builtin;go_must (refine bD _ rfl _ _ 29 rfl w.heap.size 3 bF _ 1 8 underlying29 bq.u br.u bs.u bt.u rfl ar (.slice pa ps.length pc) ps.length (ps.map fun n:Nat=> .int .i64 n) rfl ?sN ⟨w1.heap.size,0,none⟩ 1 1 [.int .i64 m] rfl rfl ?k9 ?mx ar ?sO ?hu ?ld (w1.heap.size+1) ?N2 ?pY))
    case sN=>exact bc.u.alloc _
    case k9=>exact bE (B:=w1.heap.size) (cs:=#[.int .i64 m]) (t:=3) (fr:=(0,0)) (aB.new' _ _ _ _ rfl)
    case mx=>
     exact ow
    case sO=>unfold maxLen;omega
    case hu=>omega
    case ld=>simp;omega
    case N2=>simp
    intro g5 aV w5 aU aS aP bW;obtain ⟨ax,aN⟩:=af.u.grownP bv ap aE aS aU aP;have ah:=ai aN;obtain ⟨ci,cj,ck,cl,cm,co,cq,cr⟩:=ax.eight;have zq:=ax.fz;have ce:=ax.lt;clear aU aS aP ax aN p0 p1 p2 p3 p4 p5 p6 p7 bl;have aQ:base<=(w5.setCell ⟨w.heap.size,6,none⟩ (.slice (some ⟨g5,0,none⟩) (ps.length+1) aV)).heap.size:=aL aE ah.u.fr.below.size;go_wp2_with fail;refine (iC b s tv ae d c0 (PP s aG) kv rv aK (sg 124) _ ah.u.rs bh).mono ?_;rintro e' a8 ⟨rfl,ay⟩;have av:=ai (ah.u.below ay aQ ap);clear ay ah;have aO:=ai (show T0 (TT s) (PP s) (gY (TT s) (PP s) room inner) i a (ex+2) pl.length aH aA false ae c0 (PP s aG) (fw++t) (ps++[m]) from .inr (.inr ⟨rfl,bh,aj,aj,an,aG,rfl,bS.u⟩));go_wp2
    go_roundg aA
    case measure=>omega
    case rel=>exact ⟨false,aK,ae,c0,PP s aG,fw++t,lr++tl,ps++[m],some ⟨g5,0,none⟩,aV,rfl,av.u,(fun e=>absurd e bh),(fun ac=>by cases ac),aO⟩
   |ok yy=>
    obtain ⟨y,ae⟩:=yy;rw [aD] at au;obtain ⟨rs,bY,b4,f1,bi⟩:=au;have af:=ai (aY.u.call fr pt rs a4 (P0:=[]) (l1:=[]));have bn:=ai (show ∃x,iq (fw++t) (ps++[m]) x/\joinL (TT s) (PP s) [sg 124] (gY (TT s) (PP s) room inner) (aA+1) x ae=aH from by
     rcases bb.u with ⟨_,rfl,ac⟩|⟨_,_,x,p,al,ac⟩
     ·rw [rR aD] at ac;exact ⟨_,iq.one bi,ac⟩
     rw [rR aD] at ac;exact ⟨_,al.snoc bi p,ac⟩)
    have ba:=ai (show (ps++[m]).length≠1->(fw++t).length+i+1<=pl.length+ae from fun b5=>by
     rcases bb.u with ⟨_,rfl,_⟩|⟨_,aW,_⟩
     ·exact absurd rfl b5
     omega)
    clear fr pt rs a4 C aY aD bi;have b9:=af.u.rs.sz;have b0:=af.u.rs.gd.le;obtain ⟨p0,p1,p2,p3,p4,p5,p6,p7⟩:=af.u.box.eight;have bl:=af.u.box.fz;have cd:=af.u.box.lt;have bc:=ai af.u.prow;go_wp2_with (at_builtin;go_must (refine bD _ rfl _ _ 29 rfl w.heap.size 3 bF _ 1 8 underlying29 bq.u br.u bs.u bt.u rfl ar (.slice pa ps.length pc) ps.length (ps.map fun n:Nat=> .int .i64 n) rfl ?zg ⟨w1.heap.size,0,none⟩ 1 1 [.int .i64 m] rfl rfl ?sQ ?sR ar ?Cf ?li ?sS (w1.heap.size+1) ?Th ?xl))
    case zg=>exact bc.u.alloc _
    case sQ=>exact bE (B:=w1.heap.size) (cs:=#[.int .i64 m]) (t:=3) (fr:=(0,0)) (aB.new' _ _ _ _ rfl)
    case sR=>
     exact ow
    case Cf=>unfold maxLen;omega
    case li=>omega
    case sS=>simp;omega
    case Th=>simp
    intro g5 aV w5 aU aS aP bW;obtain ⟨ax,aN⟩:=af.u.grownP bv ap aE aS aU aP;have ah:=ai aN;obtain ⟨ci,cj,ck,cl,cm,co,cq,cr⟩:=ax.eight;have zq:=ax.fz;have ce:=ax.lt;clear aU aS aP ax aN p0 p1 p2 p3 p4 p5 p6 p7 bl;have aQ:base<=(w5.setCell ⟨w.heap.size,6,none⟩ (.slice (some ⟨g5,0,none⟩) (ps.length+1) aV)).heap.size:=aL aE ah.u.fr.below.size
    cases aC:eqs (TT s ae) (sg 124)
    ·go_wp2_with fail;refine (b3 b s tv ae d a kv rv aK (sg 124) _ ah.u.rs false aC).mono ?_;rintro e' a8 ⟨rfl,ay⟩;have av:=ai (ah.u.below ay aQ ap);clear ay ah;have aO:=ai (show T0 (TT s) (PP s) (gY (TT s) (PP s) room inner) i a (ex+2) pl.length aH aA false ae 0 a (fw++t) (ps++[m]) from .inr (.inl ⟨rfl,rfl,rfl,aj,aj,ba.u,by
      obtain ⟨x,al,aJ⟩:=bn.u;rw [zt (by simp [gz,aC])] at aJ;exact ⟨x,al,aJ.symm⟩⟩))
     clear aC;go_wp2
     go_roundg aA
     case measure=>omega
     case rel=>exact ⟨false,aK,ae,0,a,fw++t,lr++tl,ps++[m],some ⟨g5,0,none⟩,aV,rfl,av.u,(fun _=>aM),(fun ac=>by cases ac),aO⟩
    go_wp2_with fail;refine (b3 b s tv ae d a kv rv aK (sg 124) _ ah.u.rs true aC).mono ?_;rintro e' a8 ⟨rfl,ay⟩;have av:=ai (ah.u.below ay aQ ap);have bU:base<=a8.heap.size:=aL aQ ay.size;clear ay ah;have bP:=ai (av.u.rs.gd.succ (cG aC ar));obtain ⟨a7,bk,bJ,r3,bK,_⟩:=av.u.rs.blk.eight;have cE:=av.u.rs.blk.fz;have bM:=ai (av.u.but ((But.refl b a8).setCell 1 (.int .i64 ((ae:Int)+1))) bU ap (av.u.rs.setI (ae+1) bP.u));have aO:=ai (show T0 (TT s) (PP s) (gY (TT s) (PP s) room inner) i a (ex+2) pl.length aH aA true (ae+1) 0 a (fw++t) (ps++[m]) from .inl ⟨rfl,rfl,rfl,aj,.inr ⟨aj,aj,by
     obtain ⟨x,al,aJ⟩:=bn.u;rw [qd (by simp [gz,aC])] at aJ;have e:TT s ae=sg 124:=Rb aC;rw [e] at aJ;exact ⟨x,PP s ae,al,aJ⟩⟩⟩)
    have bZ:512<=aA+(ae+1):=aj;clear aC;go_wp2
    go_roundg aA
    case measure=>omega
    case rel=>exact ⟨true,aK,ae+1,0,a,fw++t,lr++tl,ps++[m],some ⟨g5,0,none⟩,aV,rfl,bM.u,(fun _=>aM),(fun _=>bZ),aO⟩
  ·have HB:=ai bu;have P3:=ai au;have ba:=ai aW;have ji:=ai am;clear am aX a1 a2 bu au aW a5 a6
   by_cases h1:ps.length=1
   ·exact P4
   skip
   have bo:=ai h1;have bf:¬((ps.length:Int)=1):=aj;have bT:((ps.length:Int)==1)=false:=bG.2 bf;have aW:=ba.u h1;clear h1;obtain ⟨p0,p1,p2,p3,p4,p5,p6,p7⟩:=ji.u.box.eight;have be:=ai (show kj wr (⟨5,[],em,em,PP s i,0,ps,[]⟩,.slice none 0 0,.slice pa ps.length pc,.slice none 0 0) from ⟨bN,ec ji.u.prow,bN⟩);have FX:=ai (show jh w.heap.size (⟨5,[],em,em,PP s i,0,ps,[]⟩,.slice none 0 0,.slice pa ps.length pc,.slice none 0 0) from fun g ad=>by
    rcases ad with ad|ad|ad
    ·cases ad
    ·exact (ji.u.prow.lt g ad).1
    cases ad)
   go_wp2_with fail;refine (eL base b s tv j d 0 (a) kv rv kM fw lr ⟨5,[],em,em,PP s i,0,ps,[]⟩ none 0 pa pc none 0 wr ji.u.rs ji.u.pt be.u aj a3 ap).mono ?_;rintro e' wf ⟨pv',rfl,fr,bL,bI⟩;have bO:=ai (ji.u.fr.trans fr);have bR:=ai bL;have bQ:=ai bI;clear fr bL bI p0 p1 p2 p3 p4 p5 p6 p7;go_wp2;go_ret;rw [P3.u];obtain ⟨t,rfl⟩:=ji.u.sfx;obtain ⟨tl,rfl,b6⟩:=ji.u.new;exact ⟨_,rfl,pv',_,_,t++[_],tl++[_],bO.u,bQ.u,by rw [eI],by rw [eI],fun x al=>by
    rw [aT,aR] at al
    rcases al with al|rfl
    ·exact b6 x al
    exact FX.u,bR.u,hij,by simp at aW ⊢;omega,HB.u.some (by simpa using bo.u) _⟩
  have P3:=ai au;have ji:=ai am;clear am aX a1 a2 au b7 a5 a6
  by_cases h1:ps.length=1
  ·exact P5
  skip
  have bo:=ai h1;have bf:¬((ps.length:Int)=1):=aj;have bT:((ps.length:Int)==1)=false:=bG.2 bf;clear h1;obtain ⟨p0,p1,p2,p3,p4,p5,p6,p7⟩:=ji.u.box.eight;have be:=ai (show kj wr (⟨5,[],em,em,PP s i,0,ps,[]⟩,.slice none 0 0,.slice pa ps.length pc,.slice none 0 0) from ⟨bN,ec ji.u.prow,bN⟩);have FX:=ai (show jh w.heap.size (⟨5,[],em,em,PP s i,0,ps,[]⟩,.slice none 0 0,.slice pa ps.length pc,.slice none 0 0) from fun g ad=>by
   rcases ad with ad|ad|ad
   ·cases ad
   ·exact (ji.u.prow.lt g ad).1
   cases ad)
  go_wp2_with fail;refine (eL base b s tv j d e (PP s aG) kv rv kM fw lr ⟨5,[],em,em,PP s i,0,ps,[]⟩ none 0 pa pc none 0 wr ji.u.rs ji.u.pt be.u aj a3 ap).mono ?_;exact P2
theorem q3(s):∀(n d:Nat),d+n=4->o8 s (fb (TT s) (PP s) n) d (3*(n+1))
 |0,d,h=>fun base b tv i a kv rv pv pl l w h1 h2 C D I=>
  vD base b s tv i d a kv rv pv pl l w h1 h2 C D I false (fun _=> .error (0,0)) 0 aj (fun e=>by cases e) (fun _=>aj)
 |n+1,d,h=>fun base b tv i a kv rv pv pl l w h1 h2 C D I=>by
  have:=vD base b s tv i d a kv rv pv pl l w h1 h2 C D I true (fb (TT s) (PP s) n) (3*(n+1)) aj (fun _=>⟨aj,q3 s n (d+1) aj⟩) (fun e=>by cases e);rw [show 3*(n+1+1)=3*(n+1)+3 by omega];exact this
def SV(s:ae)(h:Bool)(i a:Nat):Nat×Nat×Nat:=if c9 (TT s i) then (if (TT s i).size<=8/\h=true then (i+1,0,a) else (i,3,PP s i)) else (i,2,PP s i)
def EN(s x:ae)(i e a:Nat):Nat×Nat×Nat:=if e=0 then (if eqs (TT s i) x then (i+1,0,a) else (i,2,PP s i)) else (i,e,a)
theorem vE(b s tv i d a kv rv pv rm w)(D:RS w b s tv i d 0 a kv rv pv):
  Calls prog 228 #[.pointer (some ⟨b,0,none⟩),.bool rm] w fun e w'=>e=.returned (o7 s i)/\But b w w'/\∃i' e' a',(i',e',a')=SV s rm i a/\RS w' b s tv i' d e' a' kv rv pv:=by
 unfold SV
 cases hn:c9 (TT s i)
 ·exact (jB b s tv i d a kv rv pv rm w D hn).mono (fun e w' ⟨h1,h2,C⟩=>⟨h1,h2,_,_,_,rfl,C⟩)
 ·by_cases hl:(TT s i).size<=8
  ·cases I:rm
   ·exact (Cj b s tv i d a kv rv pv false w D hn hl rfl).mono (fun e w' ⟨h1,h2,C⟩=>⟨h1,h2,_,_,_,an,C⟩)
   exact (iH b s tv i d a kv rv pv w D hn hl).mono (fun e w' ⟨h1,h2,C⟩=>⟨h1,h2,_,_,_,by simp [hl],C⟩)
  exact (kK b s tv i d a kv rv pv rm w D hn aj).mono (fun e w' ⟨h1,h2,C⟩=>⟨h1,h2,_,_,_,by simp [hl],C⟩)
theorem kN(b s tv i d e0 a kv rv pv x w)(C:RS w b s tv i d e0 a kv rv pv)(I:0<(bW x).length):
  Calls prog 188 #[.pointer (some ⟨b,0,none⟩),.string x] w fun e w'=>e=.returned (.tuple #[])/\But b w w'/\∃i' e' a',(i',e',a')=EN s x i e0 a/\RS w' b s tv i' d e' a' kv rv pv:=by
 unfold EN
 by_cases h0:e0=0
 ·subst h0
  cases hn:eqs (TT s i) x
  ·exact (xr b s tv i d a kv rv pv x w C hn).mono (fun e w' ⟨h1,h2,D⟩=>⟨h1,h2,_,_,_,an,D⟩)
  exact (sY b s tv i d a kv rv pv x w C hn I).mono (fun e w' ⟨h1,h2,D⟩=>⟨h1,h2,_,_,_,an,D⟩)
 ·exact (sZ b s tv i d e0 a kv rv pv x w C h0).mono (fun e w' ⟨h1,h2⟩=>⟨h1,But.of_below h2,_,_,_,by simp [h0],C.below h2⟩)
structure RV where
 kd:ae
 nm:ae
 pl:Nat
 ex:Nat
def kC(k:ae×Nat):List ag:=[.string k.1,.int .i64 k.2]
def rC(r:RV):List ag:=[.string r.kd,.string r.nm,.int .i64 r.pl,.int .i64 r.ex]
structure RM(base:Nat)(w:af)(b:Nat)(s:ae)(tv:ag)(i d e a:Nat)(kv rv pv:ag)(kl:List (ae×Nat))(rl:List RV)(pl:List PV)(l:List PX):Prop where
 rs:RS w b s tv i d e a kv rv pv
 pt:PT base w pv pl l
 kt:w.ownsRow base 170 2 kv kl.length (kl.flatMap kC)
 rt:w.ownsRow base 172 4 rv rl.length (rl.flatMap rC)
 fh:∀x∈l,jh base x
def NX(T:TypeId)(w w':af):Prop:=∀(g:Nat)(cs:Array ag)(T':TypeId)(f:Nat×Nat),w.heap[g]? =some (Obj.cells cs T' f)->T'≠T->T'≠252->w'.heap[g]? =w.heap[g]?
theorem NX.row(k:NX T w w')(h:w.ownsRow base e size v n xs)(h1:e≠T)(h2:e≠252):w'.ownsRow base e size v n xs:=ax h (fun g cs f _ A=>k g cs _ f A h1 h2)
theorem NX.pt(k:NX T w w')(C:PT base w pv pl l)(h1:255≠T)(h2:257≠T)(I:3≠T)(J:259≠T):PT base w' pv pl l:=
 ⟨C.fst,k.row C.row h1 ar,fun x D=>⟨k.row (C.rep x D).g h2 ar,k.row (C.rep x D).p I ar,k.row (C.rep x D).s J ar⟩⟩
theorem NX.grown(C:w.ownsRow base T size v n xs)(k:Below w.heap.size w W)(D:W.grownBy w5 v.ownBlock)(b)(A:aB w b cs 252)(o u):NX T w (w5.setCell ⟨b,o,none⟩ u):=by
 intro g I T' f h h1 h2;refine (dP _ _ _ _ ?_).trans ((D.block g (cg (lt_of_some h) k.size) (fun e=>eo C h h1 e)).trans (k.block g (lt_of_some h)));intro e;subst e;unfold aB at A;rw [A] at h;simp only [aK,s3] at h;exact h2 h.2.1.symm
section
variable {base b:Nat}{w w':af}{s:ae}{tv:ag}{i d e a:Nat}{kv rv pv:ag}{kl:List (ae×Nat)}{rl:List RV}{pl:List PV}{l:List PX}
theorem RM.below(h:RM base w b s tv i d e a kv rv pv kl rl pl l)(k:Below w.heap.size w w')(C:base<=b)(D:base<=w.heap.size):RM base w' b s tv i d e a kv rv pv kl rl pl l:=
 ⟨h.rs.below k,h.pt.but (But.of_below (b:=b) k) h.rs.blk C D,ax h.kt (fun g cs f _ A=>k.block g (lt_of_some A)),ax h.rt (fun g cs f _ A=>k.block g (lt_of_some A)),h.fh⟩
theorem But.row{bs}(k:But b w w')(A:aB w b cs 252)(C:w.ownsRow bs T size v n xs)(h1:T≠252):w'.ownsRow bs T size v n xs:=
 ax C (fun g cs f _ h=>k.block g (lt_of_some h) (fun e=>by
  subst e;unfold aB at A;rw [A] at h;simp only [aK,s3] at h;exact h1 h.2.1.symm))
theorem RM.but(C:RM base w b s tv i d e a kv rv pv kl rl pl l)(k:But b w w')(D:base<=b)(I:base<=w.heap.size)(r:RS w' b s tv i' d' e' a' kv rv pv):RM base w' b s tv i' d' e' a' kv rv pv kl rl pl l:=
 ⟨r,C.pt.but k C.rs.blk D I,k.row C.rs.blk C.kt ar,k.row C.rs.blk C.rt ar,C.fh⟩
theorem RM.fr(C:RM base w b s tv i d e a kv rv pv kl rl pl l)(k:Fr base b w w' pv pv'){j6 l'}(p:PT base w' pv' j6 l')(r:RS w' b s tv i' d' e' a' kv rv pv')(D:∀x∈l',jh base x):RM base w' b s tv i' d' e' a' kv rv pv' kl rl j6 l':=
 ⟨r,p,k.row C.kt C.rs.blk C.pt.row ar ar,k.row C.rt C.rs.blk C.pt.row ar ar,D⟩
theorem RM.kinds(C:RM base w b s tv i d e a kv rv pv kl rl pl l)(U:base<=b)(Q:base<=w.heap.size){x:ae×Nat}(D:Below w.heap.size w W)(J:W.grownBy w5 kv.ownBlock)(R:w5.ownsRow base 170 2 (.slice (some ⟨g5,0,none⟩) (kl.length+1) aV) (kl.length+1) (kl.flatMap kC++kC x)):
  RM base (w5.setCell ⟨b,5,none⟩ (.slice (some ⟨g5,0,none⟩) (kl.length+1) aV)) b s tv i d e a (.slice (some ⟨g5,0,none⟩) (kl.length+1) aV) rv pv (kl++[x]) rl pl l/\Below base w (w5.setCell ⟨b,5,none⟩ (.slice (some ⟨g5,0,none⟩) (kl.length+1) aV))/\NX 170 w (w5.setCell ⟨b,5,none⟩ (.slice (some ⟨g5,0,none⟩) (kl.length+1) aV)):=by
 have I:=NX.grown C.kt D J b C.rs.blk 5 (.slice (some ⟨g5,0,none⟩) (kl.length+1) aV);have O:aB w5 b _ 252:=(J.block b (cg C.rs.lt D.size) (fun e=>eo C.kt C.rs.blk ar e)).trans ((D.block b C.rs.lt).trans C.rs.blk);refine ⟨⟨⟨O.set 5 _,I.row C.rs.tok ar ar,C.rs.gd,⟨⟨_,_,_,rfl⟩,C.rs.fm.2⟩,C.rs.sz⟩,I.pt C.pt ar ar ar ar,?_,I.row C.rt ar ar,C.fh⟩,?_,I⟩
 ·have:=bJ R O ar 5 (.slice (some ⟨g5,0,none⟩) (kl.length+1) aV);exact Ck
 ·exact (dc (D.mono Q) J (aL Q D.size) (fun k V=>(C.kt.lt k V).1)).setCell U _
theorem RM.rels(C:RM base w b s tv i d e a kv rv pv kl rl pl l)(U:base<=b)(Q:base<=w.heap.size){x}(D:Below w.heap.size w W)(J:W.grownBy w5 rv.ownBlock)(R:w5.ownsRow base 172 4 (.slice (some ⟨g5,0,none⟩) (rl.length+1) aV) (rl.length+1) (rl.flatMap rC++rC x)):
  RM base (w5.setCell ⟨b,6,none⟩ (.slice (some ⟨g5,0,none⟩) (rl.length+1) aV)) b s tv i d e a kv (.slice (some ⟨g5,0,none⟩) (rl.length+1) aV) pv kl (rl++[x]) pl l/\Below base w (w5.setCell ⟨b,6,none⟩ (.slice (some ⟨g5,0,none⟩) (rl.length+1) aV))/\NX 172 w (w5.setCell ⟨b,6,none⟩ (.slice (some ⟨g5,0,none⟩) (rl.length+1) aV)):=by
 have I:=NX.grown C.rt D J b C.rs.blk 6 (.slice (some ⟨g5,0,none⟩) (rl.length+1) aV);have O:aB w5 b _ 252:=(J.block b (cg C.rs.lt D.size) (fun e=>eo C.rt C.rs.blk ar e)).trans ((D.block b C.rs.lt).trans C.rs.blk);refine ⟨⟨⟨O.set 6 _,I.row C.rs.tok ar ar,C.rs.gd,⟨C.rs.fm.1,⟨_,_,_,rfl⟩,C.rs.fm.2.2⟩,C.rs.sz⟩,I.pt C.pt ar ar ar ar,I.row C.kt ar ar,?_,C.fh⟩,?_,I⟩
 ·have:=bJ R O ar 6 (.slice (some ⟨g5,0,none⟩) (rl.length+1) aV);exact Ck
 ·exact (dc (D.mono Q) J (aL Q D.size) (fun k V=>(C.rt.lt k V).1)).setCell U _
end
theorem NX.blk(k:NX T w w')(h:aB w g cs T')(h1:T'≠T)(h2:T'≠252):aB w' g cs T':=(k g cs T' (0,0) h h1 h2).trans h
theorem Tryz.infoKd:(Tryz.prog.info? 170).map (fun i=>(i.zero,i.size,i.bytes))=some (some (.agg #[.string ⟨#[]⟩,.int .i64 0]),2,24):=by kernel_rfl
theorem Tryz.infoRl:(Tryz.prog.info? 172).map (fun i=>(i.zero,i.size,i.bytes))=some (some (.agg #[.string ⟨#[]⟩,.string ⟨#[]⟩,.int .i64 0,.int .i64 0]),4,48):=by kernel_rfl
abbrev s8:=@List.getElem?_cons_succ
abbrev s9:=@List.getElem?_append_right
abbrev jD:=@List.any_cons
def JQ (D:aF:=by
 rw [aJ] at he;have mf:=ai hR;clear hb HQ hR;exact JR):aF:=D
def JS (D:aF:=by
 have hR:=ak HQ;rw [eK aj,List.any_nil] at hR;exact JT):aF:=D
def JU (D:aF:=by
 exact JR):aF:=D
def Cp (D:aF:=by
 exact JT):aF:=D
def JR (C:aF:=by
 go_wp2;go_roundw
 case rel=>exact ⟨k+1,aj,by go_num,HB.u,mf⟩
 case measure=>simp [intOf];omega):aF:=C
def JT (C:aF:=by
 have Gx:=ai hR;clear hb HQ hR;exact td):aF:=C
def td (A:aF:=by
 go_wp2;go_ret;exact ⟨by rw [<-Gx.u];rfl,HB.u⟩):aF:=A
structure DM(w:af)(b:Nat)(kv rv pv:ag)(kl:List (ae×Nat))(rl:List RV)(pl:List PV)(l:List PX):Prop where
 c5:w.cell? ⟨b,5,none⟩=some kv
 c6:w.cell? ⟨b,6,none⟩=some rv
 c7:w.cell? ⟨b,7,none⟩=some pv
 kt:w.ownsRow 0 170 2 kv kl.length (kl.flatMap kC)
 rt:w.ownsRow 0 172 4 rv rl.length (rl.flatMap rC)
 pt:PT 0 w pv pl l
 kn:kl.length<=5
 rn:rl.length<=500
 pn:pl.length<=500
theorem aE(h:w.ownsRow base e size v n xs)(k:Below w.heap.size w w'):w'.ownsRow base e size v n xs:=ax h (fun g cs f _ A=>k.block g (lt_of_some A))
theorem am{a}(h:w.cell? a=some v)(k:Below w.heap.size w w'):w'.cell? a=some v:=(iV (k.block a.block (World.block_lt_of_cell? w a h))).trans h
theorem PT.below(h:PT base w pv pl l)(k:Below w.heap.size w w'):PT base w' pv pl l:=
 ⟨h.fst,aE h.row k,fun x A=>⟨aE (h.rep x A).g k,aE (h.rep x A).p k,aE (h.rep x A).s k⟩⟩
section
variable {w w':af}{b:Nat}{kv rv pv:ag}{kl:List (ae×Nat)}{rl:List RV}{pl:List PV}{l:List PX}
theorem DM.below(h:DM w b kv rv pv kl rl pl l)(k:Below w.heap.size w w'):DM w' b kv rv pv kl rl pl l:=
 ⟨am h.c5 k,am h.c6 k,am h.c7 k,aE h.kt k,aE h.rt k,h.pt.below k,h.kn,h.rn,h.pn⟩
theorem zu{α:Type}(f:α->List ag)(k)(A:∀a,(f a).length=k)(a:α)(j)(C:j<k):∀(l:List α)(i:Nat),l[i]? =some a->(l.flatMap f)[i*k+j]? =(f a)[j]?
 | [],i,h=>by simp at h
 |x::l,0,h=>by
  simp only [List.getElem?_cons_zero,aK] at h;subst h;rw [cq,Nat.zero_mul,Nat.zero_add,qc (by rw [A];exact C)]
 |x::l,i+1,h=>by
  rw [s8] at h;rw [cq,s9 (by rw [A,Nat.add_mul];omega),A,show (i+1)*k+j-k=i*k+j by rw [Nat.add_mul];omega];exact zu f k A a j C l i h
theorem bi(f:α->List ag)(k)(A:∀a,(f a).length=k){l:List α}(h:w.ownsRow base T k v l.length (l.flatMap f))(i)(a:α)(hi:l[i]? =some a):
  ∃g c,v=.slice (some ⟨g,0,none⟩) l.length c/\∀j u,j<k->(f a)[j]? =some u->w.cell? ⟨g,i*k+j,none⟩=some u:=by
 obtain ⟨g,c,e,_⟩:=h.form (n:=l.length) (by have:=(be.1 hi).1;omega);refine ⟨g,c,e,fun j u C D=> ?_⟩;obtain ⟨g',I,e',hc⟩:=aZ h (i*k+j) u (by rw [zu f k A a j C l i hi];exact D);rw [e] at e';simp only [aI,aK,cw] at e';rw [e'.1.1];exact hc
theorem DM.kat(C:DM w b kv rv pv kl rl pl l)(i)(x:ae×Nat)(hi:kl[i]? =some x):∃g c,kv=.slice (some ⟨g,0,none⟩) kl.length c/\w.cell? ⟨g,i*2,none⟩=some (.string x.1)/\w.cell? ⟨g,i*2+1,none⟩=some (.int .i64 x.2):=by
 obtain ⟨g,c,e,hc⟩:=bi kC 2 (fun _=>rfl) C.kt i x hi;exact ⟨g,c,e,hc 0 _ aj rfl,hc 1 _ aj rfl⟩
theorem DM.rat(C:DM w b kv rv pv kl rl pl l)(i x)(hi:rl[i]? =some x):∃g c,rv=.slice (some ⟨g,0,none⟩) rl.length c/\w.cell? ⟨g,i*4,none⟩=some (.string x.kd)/\w.cell? ⟨g,i*4+1,none⟩=some (.string x.nm)/\w.cell? ⟨g,i*4+2,none⟩=some (.int .i64 x.pl)/\w.cell? ⟨g,i*4+3,none⟩=some (.int .i64 x.ex):=by
 obtain ⟨g,c,e,hc⟩:=bi rC 4 (fun _=>rfl) C.rt i x hi;exact ⟨g,c,e,hc 0 _ aj rfl,hc 1 _ aj rfl,hc 2 _ aj rfl,hc 3 _ aj rfl⟩
end
theorem aJ(a c):eqs a c=(a.toList==c.toList):=by unfold eqs;rw [aO,aO]
theorem q4(b kv rv pv kl rl pl l x w)(I:DM w b kv rv pv kl rl pl l):
  Calls prog 137 #[.pointer (some ⟨b,5,none⟩),.string x] w fun e w'=>e=.returned (.bool (kl.any fun k=>eqs k.1 x))/\Below w.heap.size w w':=by
 obtain ⟨Y,Z,rfl⟩:=ay I.kt;have H:=ai I;have V:=I.kn;generalize hR:(kl.any fun k=>eqs k.1 x)=J;have Q:=ai (show ((kl.drop 0).any fun k=>eqs k.1 x)=J from hR);clear I hR;go_enter func137,ntmps137;go_wp2_with fail
 go_loopw [5] (fun u wr=>∃k:Nat,k<=kl.length/\u=.int .i64 k/\Below w.heap.size w wr/\Hid (((kl.drop k).any fun q=>eqs q.1 x)=J)) (fun u _=>kl.length-(intOf u).toNat)
 case atStart=>exact ⟨0,aj,rfl,aw _ _,Q⟩
 case round=>
  obtain ⟨k,U,rfl,hb,HQ⟩:=hrel;have c5:=(H.u.below hb).c5;have HB:=ai hb
  by_cases O:k<kl.length
  ·obtain ⟨g,c,e1,k0,k1⟩:=(H.u.below hb).kat k kl[k] (aG O);simp only [aI,true_and] at e1;obtain ⟨rfl,rfl⟩:=e1;have hR:=ak HQ;rw [dw O,jD] at hR;generalize kl[k]=q at*;have R:(k:Int)<(kl.length:Int):=aj
   cases he:eqs q.1 x
   ·rw [he,Bool.false_or] at hR;exact JQ
   rw [he,Bool.true_or] at hR;rw [aJ] at he;exact Cp
  have R:¬((k:Int)<(kl.length:Int)):=aj;exact JS
def aU(k n:ae):List RV->Nat->Int
 | [],_=> -1
 |x::xs,i=>if eqs x.kd k&&eqs x.nm n then i else aU k n xs (i+1)
theorem dI(b kv rv pv kl rl pl l x y w)(I:DM w b kv rv pv kl rl pl l):
  Calls prog 132 #[.pointer (some ⟨b,5,none⟩),.string x,.string y] w fun e w'=>e=.returned (.int .i64 (aU x y rl 0))/\Below w.heap.size w w':=by
 obtain ⟨ab,rc,rfl⟩:=ay I.rt;have H:=ai I;have Y:=I.rn;generalize hR:aU x y rl 0=O;have R:=ai (show aU x y (rl.drop 0) 0=O from hR);clear I hR;go_enter func132,ntmps132;go_wp2_with fail
 go_loopw [7] (fun u wr=>∃k:Nat,k<=rl.length/\u=.int .i64 k/\Below w.heap.size w wr/\Hid (aU x y (rl.drop k) k=O)) (fun u _=>rl.length-(intOf u).toNat)
 case atStart=>exact ⟨0,aj,rfl,aw _ _,R⟩
 case round=>
  obtain ⟨k,V,rfl,hb,HQ⟩:=hrel;have c6:=(H.u.below hb).c6;have HB:=ai hb
  by_cases Q:k<rl.length
  ·obtain ⟨g,c,e1,k0,k1,Z,k3⟩:=(H.u.below hb).rat k rl[k] (aG Q);simp only [aI,true_and] at e1;obtain ⟨rfl,rfl⟩:=e1;have hR:=ak HQ;rw [dw Q,aU] at hR;generalize rl[k]=q at*;have U:(k:Int)<(rl.length:Int):=aj
   cases he:eqs q.kd x
   ·rw [he,dR] at hR;simp only [bz,aP] at hR;exact JQ
   rw [he,Bool.true_and] at hR;rw [aJ] at he
   cases J:eqs q.nm y
   ·rw [J] at hR;simp only [bz,aP] at hR;rw [aJ] at J;have mf:=ai hR;clear hb HQ hR;exact JU
   rw [J] at hR;simp only [if_true] at hR;rw [aJ] at J;exact Cp
  have U:¬((k:Int)<(rl.length:Int)):=aj;have hR:=ak HQ;rw [eK aj,aU] at hR;exact Cp
def tI (A:aF:=by
 simp [aG hlt]):aF:=A
def Qq (aK:aF:=by
 clear B0 T6;obtain ⟨k,fv,aD,aH,aT,rfl,rfl,D,Q,ab,V⟩:=hrel;have U:=ai D;have ad:=ai Q;have Y:=ai ab;obtain ⟨aW,p1,p2,aX,a0,a1,a2,a3⟩:=Q.eight;have aR:=D.size
 by_cases hlt:k<p.ps.length
 ·have al:=bu hlt;obtain ⟨q,aS,e1,aU⟩:=aZ (aE RP.u D) k (.int .i64 (p.ps[k]:Nat)) tI;simp only [aI,true_and] at e1;obtain ⟨rfl,rfl⟩:=e1;obtain ⟨ag,ap⟩:=HC.u _ al;have C:=ai (ag b kv rv _ kl rl l wr (HD.u.below D));have ac:=ai (jt lf p.ps k _ (aG hlt));have aP:=nx lf p.ps (k+1);rw [ac.u,<-ak V,bo,HG.u] at aP;have aO:(k:Int)<(p.ps.length:Int):=aj;generalize p.ps[k]=m at*;clear D Q ab ag al;go_wp2_with fail;refine C.u.mono ?_;rintro e w1 ⟨sv,rfl,O,au⟩;obtain ⟨aJ,c1,rfl,av,aw⟩:=ze au ap;have R:=ai (U.u.trans (O.mono aR));have I:=ai (ad.u.below O);have J:=ai (aE Y.u O);have ax:=R.u.size;have ae:=ai av;have af:=ai aw;have P0:=I.u.lt;clear O au C U ad Y av aw;go_wp2_with (at_builtin;go_must (refine bD _ rfl _ _ 29 rfl w.heap.size 3 iI _ 1 8 underlying29 II.u Rz.u RA.u RB.u rfl ar (.slice aD fv.length aH) fv.length (fv.map fun n:Nat=> .int .i64 n) rfl J.u ⟨aJ,0,none⟩ (lf m).length c1 ((lf m).map fun n:Nat=> .int .i64 n) rfl ae.u af.u ?hone ap ?h63 ?hbytes ax w1.heap.size rfl ?hrest))
  case hone=>
   intro u aQ;obtain ⟨n,_,rfl⟩:=aY.1 aQ
   rfl
  case h63=>unfold maxLen;omega
  case hbytes=>omega
  intro g5 aV w5 am Z aL aM;have ay:=ai (dc R.u Z ax (fun k aN=>(J.u.lt k aN).1));have aA:=ai (show aB w5 w.heap.size _ 255 from (Z.block _ I.u.lt (own_ne J.u I.u ar)).trans I.u);have aC:=ai am;clear am Z aL aM R I J ae af;go_wp2;go_roundw
  case rel=>exact ⟨k+1,fv++lf m,some ⟨g5,0,none⟩,aV,aj,by go_num,an,ay.u,aA.u,by simpa using aC.u,ai (by rw [ak V,ac.u])⟩
  case measure=>simp [intOf];omega
 have aO:¬((k:Int)<(p.ps.length:Int)):=aj;have ah:fv=G:=by rw [ak V,eh aj,HG.u]
 have az:=ai ah;clear D Q ab ah;go_wp2;go_ret;rw [<-az.u];exact ⟨_,rfl,U.u,Y.u⟩):aF:=aK
def KV (A:aF:=by
 exact cf.app (tJ (dJ pl f) _ _ h5) _ _ (dJ pl f _ _ h4)):aF:=A
def aD(pl:List PV):Nat->Nat->List Nat
 |0,_=>[]
 |f+1,n=>match pl[n]? with
  |none=>[]
  |some p=>if p.kind=4\/p.kind=5 then p.ps.flatMap (aD pl f) else [n]
def aH:Ex->List Ex
 |⟨_,some x,some y⟩=>aH x++aH y
 |⟨n,none,r⟩=>[⟨n,none,r⟩]
 |⟨_,some _,none⟩=>[]
theorem cf.app{R c cs}(k:cf R c cs):∀(ns:List Nat)(xs:List Ex),cf R ns xs->cf R (ns++c) (xs++cs)
 | [],[],_=>k
 |n::ns,x::xs,h=>⟨h.1,cf.app k ns xs h.2⟩
 | [],_::_,h=>h.elim
 |_::_,[],h=>h.elim
theorem cf.len{R}:∀(ns:List Nat)(xs:List Ex),cf R ns xs->ns.length=xs.length
 | [],[],_=>rfl
 |n::ns,x::xs,h=>by simp [cf.len ns xs h.2]
 | [],_::_,h=>h.elim
 |_::_,[],h=>h.elim
theorem dB:∀(rs:List (ae×Nat×Ex)) (x:Ex),aH (dl x rs)=aH x++(rs.map fun r=>r.2.2).flatMap aH
 | [],x=>by simp [dl]
 |(t,p,y)::rs,x=>by
  rw [dl,dB rs];simp [fV,aH]
theorem tJ{pl:List PV}{f:Nat}(A:∀n x,Tr pl f n x->cf (Tr pl 1) (aD pl f n) (aH x)):∀(ns:List Nat)(xs:List Ex),cf (Tr pl f) ns xs->cf (Tr pl 1) (ns.flatMap (aD pl f)) (xs.flatMap aH)
 | [],[],_=>trivial
 |n::ns,x::xs,h=>by
  simp only [cq];exact cf.app (tJ A ns xs h.2) _ _ (A n x h.1)
 | [],_::_,h=>h.elim
 |_::_,[],h=>h.elim
theorem dJ(pl):∀(f n:Nat)(x:Ex),Tr pl f n x->cf (Tr pl 1) (aD pl f n) (aH x)
 |0,_,_,h=>h.elim
 |f+1,n,x,⟨p,hp,h⟩=>by
  rw [aD,hp]
  rcases h with ⟨h1,hn,h2⟩|⟨h1,h0,hn,h2⟩|⟨h1,h0,hn,h2⟩|⟨h1,h0,O,ns,Q,rs,C,h4,h5,I,J,D⟩|⟨h1,h0,R,O,ns,Q,rs,C,h4,h5,I,J,D⟩
  ·simp only [h1,Nat.reduceEqDiff,or_self,aP,h2,aH];exact ⟨⟨p,hp,.inl ⟨h1,hn,rfl⟩⟩,trivial⟩
  ·simp only [h1,Nat.reduceEqDiff,or_self,aP,h2,aH];exact ⟨⟨p,hp,.inr (.inl ⟨h1,h0,hn,rfl⟩)⟩,trivial⟩
  ·simp only [h1,Nat.reduceEqDiff,or_self,aP,h2,aH];exact ⟨⟨p,hp,.inr (.inr (.inl ⟨h1,h0,hn,rfl⟩))⟩,trivial⟩
  ·simp only [h1,true_or,if_true,D,C,dB,cq];exact KV
  simp only [h1,or_true,if_true,D,C,dB,cq];exact KV
section
variable {w w':af}{b:Nat}{kv rv pv:ag}{kl:List (ae×Nat)}{rl:List RV}{pl:List PV}{l:List PX}
theorem DM.pat(C:DM w b kv rv pv kl rl pl l)(i p)(hi:pl[i]? =some p):∃g c ga gc pa pc sa sc,pv=.slice (some ⟨g,0,none⟩) pl.length c/\kj w (p,.slice ga p.gs.length gc,.slice pa p.ps.length pc,.slice sa p.sg.length sc)/\
  w.cell? ⟨g,i*8,none⟩=some (.int .i64 p.kind)/\w.cell? ⟨g,i*8+1,none⟩=some (.slice ga p.gs.length gc)/\w.cell? ⟨g,i*8+2,none⟩=some (.string p.nb)/\w.cell? ⟨g,i*8+3,none⟩=some (.string p.nr)/\w.cell? ⟨g,i*8+4,none⟩=some (.int .i64 p.pa)/\w.cell? ⟨g,i*8+5,none⟩=some (.int .i64 p.pr)/\w.cell? ⟨g,i*8+6,none⟩=some (.slice pa p.ps.length pc)/\w.cell? ⟨g,i*8+7,none⟩=some (.slice sa p.sg.length sc):=by
 have hl:pl.length=l.length:=by rw [<-C.pt.fst,List.length_map]
 rw [<-C.pt.fst,List.getElem?_map] at hi;obtain ⟨x,Q,rfl⟩:=Option.map_eq_some_iff.1 hi;have O:=C.pt.row;rw [hl] at O;obtain ⟨g,c,e,hc⟩:=bi ki 8 (fun _=>rfl) O i x Q;have D:=C.pt.rep x (bx Q);obtain ⟨p,gv,R,sv⟩:=x;obtain ⟨ga,gc,e1⟩:=ay D.g;obtain ⟨pa,pc,I⟩:=ay D.p;obtain ⟨sa,sc,J⟩:=ay D.s;simp only at e1 I J;subst e1 I J;exact ⟨g,c,ga,gc,pa,pc,sa,sc,by rw [e,hl],D,hc 0 _ aj rfl,hc 1 _ aj rfl,hc 2 _ aj rfl,hc 3 _ aj rfl,hc 4 _ aj rfl,hc 5 _ aj rfl,hc 6 _ aj rfl,hc 7 _ aj rfl⟩
end
def gF(pl:List PV)(n:Nat)(lv:List Nat):Prop:=∀(b:Nat) (kv rv pv:ag) (kl:List (ae×Nat)) (rl:List RV) (l:List PX) (w:af),DM w b kv rv pv kl rl pl l->
 Calls prog 191 #[.pointer (some ⟨b,5,none⟩),.int .i64 n] w fun e w'=>∃sv,e=.returned sv/\Below w.heap.size w w'/\w'.ownsRow w.heap.size 3 1 sv lv.length (lv.map fun n:Nat=> .int .i64 n)
theorem Ac(pl n p)(D:pl[n]? =some p)(R:p.kind≠4)(V:p.kind≠5):gF pl n [n]:=by
 intro b kv rv pv kl rl l w C;obtain ⟨g,c,ga,gc,pa,pc,sa,sc,rfl,O,k0,k1,ac,k3,ad,ae,af,ag⟩:=C.pat n p D;have c7:=C.c7;have hn:=(be.1 D).1;have ab:=C.pn;have Z:(n:Int)<(pl.length:Int):=aj;have I:¬((p.kind:Int)=4):=aj;have J:¬((p.kind:Int)=5):=aj;have U:((p.kind:Int) != 4)=true:=g8.2 I;have Y:((p.kind:Int) != 5)=true:=g8.2 J;have Q:=cI k0;clear C O D;go_enter func191,ntmps191;go_wp2;go_ret;refine ⟨_,rfl,((aw _ w).alloc az _).alloc an _,rfl,.inr ⟨w.heap.size+1,1,#[.int .i64 n],rfl,aj,?_,aj,by unfold maxLen;omega,rfl,rfl⟩⟩;exact aB.new' (w.alloc _) _ _ _ an
theorem jt(f:α->List β)(l:List α)(k)(a:α)(h:l[k]? =some a):(l.take (k+1)).flatMap f=(l.take k).flatMap f++f a:=by
 obtain ⟨A,rfl⟩:=be.1 h;rw [dS A,cX];simp
theorem nx(f:α->List β)(l:List α)(k):((l.take k).flatMap f).length<=(l.flatMap f).length:=by
 have:l.flatMap f=(l.take k).flatMap f++(l.drop k).flatMap f:=by rw [<-cX,og]
 rw [this,bo];omega
theorem xO(pl n p)(bc:pl[n]? =some p)(bb:p.kind=4)(lf)(bj:∀m∈p.ps,gF pl m (lf m)/\0<(lf m).length)(bE:(p.ps.flatMap lf).length<=1000)(bI:p.ps.length<=1000):gF pl n (p.ps.flatMap lf):=by
 generalize bi:p.ps.flatMap lf=G at*;have HG:=ai bi;clear bi;intro b kv rv pv kl rl l w ba;obtain ⟨iI,bk,bn,bp,bq⟩:=bH Tryz.infoInt;have II:=ai bk;have Rz:=ai bn;have RA:=ai bp;have RB:=ai bq;clear bk bn bp bq;obtain ⟨g,c,ga,gc,pa,pc,sa,sc,rfl,bl,k0,k1,bv,k3,bw,bx,bz,bA⟩:=ba.pat n p bc;have c7:=ba.c7;have hn:=(be.1 bc).1;have bG:=ba.pn;have bF:(n:Int)<(pl.length:Int):=aj;have bs:((p.kind:Int) != 4)=false:=by rw [bb];rfl
 have br:((p.kind:Int) != 4)=false:=by rw [bb];rfl
 have bt:((p.kind:Int) != 4&&(p.kind:Int) != 5)=false:=by rw [bb];rfl
 clear bb;have bC:=cI k0;have HD:=ai ba;have RP:=ai bl.p;have HC:=ai bj;have B0:=ai (show Below w.heap.size w (w.alloc (ct p.kind ga p.gs.length gc p.nb p.nr p.pa p.pr pa p.ps.length pc sa p.sg.length sc)) from (aw _ w).alloc az _);have T6:=ai (aB.new w #[.int .i64 p.kind,.slice ga p.gs.length gc,.string p.nb,.string p.nr,.int .i64 p.pa,.int .i64 p.pr,.slice pa p.ps.length pc,.slice sa p.sg.length sc] 255);clear ba bl bc bj;go_enter func191,ntmps191;go_wp2_with fail;clear k0 k1 bv k3 bw bx bz bA c7 bs bt br
 go_loopw [6,7] (fun bB bf wr=>∃(k:Nat)(fv:List Nat)(bg:Option Addr)(bh:Nat),k<=p.ps.length/\bf=.int .i64 k/\bB=.slice bg fv.length bh/\Below w.heap.size w wr/\aB wr w.heap.size #[.int .i64 p.kind,.slice ga p.gs.length gc,.string p.nb,.string p.nr,.int .i64 p.pa,.int .i64 p.pr,.slice pa p.ps.length pc,.slice sa p.sg.length sc] 255/\wr.ownsRow w.heap.size 3 1 (.slice bg fv.length bh) fv.length (fv.map fun n:Nat=> .int .i64 n)/\Hid (fv=(p.ps.take k).flatMap lf)) (fun _ bf _=>p.ps.length-(intOf bf).toNat)
 case atStart=>exact ⟨0,[],none,0,aj,rfl,rfl,B0.u,T6.u,bN,ai an⟩
 case round=>
  exact Qq
theorem xP(pl n p)(bc:pl[n]? =some p)(bb:p.kind=5)(lf)(bj:∀m∈p.ps,gF pl m (lf m)/\0<(lf m).length)(bE:(p.ps.flatMap lf).length<=1000)(bI:p.ps.length<=1000):gF pl n (p.ps.flatMap lf):=by
 generalize bi:p.ps.flatMap lf=G at*;have HG:=ai bi;clear bi;intro b kv rv pv kl rl l w ba;obtain ⟨iI,bk,bn,bp,bq⟩:=bH Tryz.infoInt;have II:=ai bk;have Rz:=ai bn;have RA:=ai bp;have RB:=ai bq;clear bk bn bp bq;obtain ⟨g,c,ga,gc,pa,pc,sa,sc,rfl,bl,k0,k1,bv,k3,bw,bx,bz,bA⟩:=ba.pat n p bc;have c7:=ba.c7;have hn:=(be.1 bc).1;have bG:=ba.pn;have bF:(n:Int)<(pl.length:Int):=aj;have bs:((p.kind:Int) != 5)=false:=by rw [bb];rfl
 have br:((p.kind:Int) != 4)=true:=by rw [bb];rfl
 have bt:((p.kind:Int) != 4&&(p.kind:Int) != 5)=false:=by rw [bb];rfl
 clear bb;have bC:=cI k0;have HD:=ai ba;have RP:=ai bl.p;have HC:=ai bj;have B0:=ai (show Below w.heap.size w (w.alloc (ct p.kind ga p.gs.length gc p.nb p.nr p.pa p.pr pa p.ps.length pc sa p.sg.length sc)) from (aw _ w).alloc az _);have T6:=ai (aB.new w #[.int .i64 p.kind,.slice ga p.gs.length gc,.string p.nb,.string p.nr,.int .i64 p.pa,.int .i64 p.pr,.slice pa p.ps.length pc,.slice sa p.sg.length sc] 255);clear ba bl bc bj;go_enter func191,ntmps191;go_wp2_with fail;clear k0 k1 bv k3 bw bx bz bA c7 bs bt br
 go_loopw [6,7] (fun bB bf wr=>∃(k:Nat)(fv:List Nat)(bg:Option Addr)(bh:Nat),k<=p.ps.length/\bf=.int .i64 k/\bB=.slice bg fv.length bh/\Below w.heap.size w wr/\aB wr w.heap.size #[.int .i64 p.kind,.slice ga p.gs.length gc,.string p.nb,.string p.nr,.int .i64 p.pa,.int .i64 p.pr,.slice pa p.ps.length pc,.slice sa p.sg.length sc] 255/\wr.ownsRow w.heap.size 3 1 (.slice bg fv.length bh) fv.length (fv.map fun n:Nat=> .int .i64 n)/\Hid (fv=(p.ps.take k).flatMap lf)) (fun _ bf _=>p.ps.length-(intOf bf).toNat)
 case atStart=>exact ⟨0,[],none,0,aj,rfl,rfl,B0.u,T6.u,bN,ai an⟩
 case round=>
  exact Qq
def E5 (A:aF:=by
 simp [hm]):aF:=A
def xQ (A:aF:=by
 rw [h3] at hm
 rcases bA.1 hm with rfl|hm
 ·exact ⟨x0,h4⟩
 obtain ⟨y,_,C⟩:=cf.mem _ _ h5 m hm;exact ⟨y,C⟩):aF:=A
def KW (A:aF:=by
 exact aL (q9 (aD pl f) _ (fun m C=>by obtain ⟨y,D⟩:=key m C;exact lG pl f m y D)) hl):aF:=A
def KY (C:aF:=by
 obtain ⟨y,A⟩:=key m hm;exact ⟨ih m y A (aL (rb _ _ _ hm) hl),lG pl f m y A⟩):aF:=C
def C2 (C:aF:=by
 simp only [h1,Nat.reduceEqDiff,or_self,aP];exact Ac pl n p hp aj aj):aF:=C
def xR (A:aF:=by
 simp only [cq,bo,List.length_cons];omega):aF:=A
def KZ (A:aF:=by
 simp only [cX,cq,bo];omega):aF:=A
def K3(q:cD) (h:QW cD->aF:=by
 intro zq;unfold Oper.wp execOp;simp only [ho,resolve,invoke,builtin,Sem.run_bind,Sem.run_pure,Result.andThen_ok,List.map_toArray,List.map_cons,List.map_nil,hs,hx,hrun];exact zq.1):aF:=h ⟨q⟩
theorem E6(A:P.underlying T=some (.slice E))(C:w.ownsRow base E size v n xs)(h1:∀u∈xs,u.oneCell'=true):Src P size T v n xs w:=by
 rcases C with ⟨h0,⟨rfl,h2⟩|⟨g,cap,J,rfl,O,D,Q,U,hs,I⟩⟩
 ·subst h2;have:xs=[]:=mq (by simpa using h0);subst this;exact Src.ofNil w A 0
 refine Src.ofSlice w A _ _ _ _ h0 ?_ h1;intro j u h;have R:=(be.1 h).1;rw [<-I,List.getElem?_take] at h
 split at h
 ·rw [Addr.add_lit];simp [World.cell?,D] at h ⊢;exact h
 simp at h
theorem E7{a}(h:w.ownsRow base E size (.slice a m c) n xs):n<=c:=by
 rcases h with ⟨_,⟨e,h2⟩|⟨g,cap,A,e,_,_,C,_⟩⟩
 ·omega
 simp only [aI] at e;omega
theorem gN{ab:Array Oper}{o:Oper}{a:Act}{Q:Exit->Act->af->Prop}(U:o.guard=none)(s x:Operand)(t:TypeId)
  (ho:o.op=.call {callee:=.builtin .append,args:=#[s,x],argTypes:=#[t,t]})
  (base:Nat) (e:TypeId) (i:TypeInfo) (z:ag) (size bytes:Nat) (J:P.underlying t=some (.slice e)) (hi:P.info? e=some i) (ar:i.zero=some z)
  (Z:i.size=size) (ak:i.bytes=bytes) (au:z.cells.size=size) (ap:0<size)
  (v:ag) (n:Nat) (O:List ag) (hs:a.eval s=v) (D:w.ownsRow base e size v n O)
  (R:ag) (m:Nat) (C:List ag) (hx:a.eval x=R) (ac:Nat) (I:w.ownsRow ac e size R m C) (h1:∀u∈C,u.oneCell'=true)
  (ah:n+m<=maxLen) (al:(n+m)*bytes<=140737488355328) (aj:base<=w.heap.size)
  (h:∀A cv w',w'.ownsRow base e size (.slice A (n+m) cv) (n+m) (O++C)->w.grownBy w' v.ownBlock->(∀g,(Value.slice A (n+m) cv).ownBlock=some g->v.ownBlock=some g\/g=w.heap.size)->wpList P ab Q rest (a.put o.dst (.slice A (n+m) cv)) w'):wpList P ab Q (o::rest) a w:=by
 by_cases V:0<m
 ·obtain ⟨g,c,rfl,hl,hn⟩:=nh I V;refine bD w U s x t ho base e i z size bytes J hi ar Z ak au ap v n O hs D ⟨g,0,none⟩ m c C hx hl hn h1 V ah al aj _ rfl ?_;intro g5 cap w' h2 ad ae av;refine h _ cap w' h2 ad (fun q Y=> ?_);simp only [Value.ownBlock,aK] at Y;subst Y;exact ae
 ·obtain rfl:m=0:=by omega
  have an:C=[]:=mq (by simpa using I.1);subst an;obtain ⟨A,cv,rfl⟩:=ay D;refine wpList_plain U fun K ai=> ?_
  have hrun:=run_append_nothing (P:=P) w t t o.type e i J hi A n cv (E7 D) R (by rw [Z];exact E6 J I h1);refine K3 ?_;exact ai _ _ (h A cv w (by simpa using D) ⟨rfl,rfl,rfl,cm _,fun _ _ _=>rfl⟩ (fun g am=> .inl am))
theorem qx{Z:Array Oper}{o:Oper}{a:Act}{K:Act->af->Prop}{Q:Exit->Act->af->Prop}{ab:Prop}(U:o.guard=none)(s x:Operand)(t:TypeId)
  (ho:o.op=.call {callee:=.builtin .append,args:=#[s,x],argTypes:=#[t,t]})
  (base:Nat) (e:TypeId) (i:TypeInfo) (z:ag) (size bytes:Nat) (J:P.underlying t=some (.slice e)) (hi:P.info? e=some i) (an:i.zero=some z)
  (Y:i.size=size) (ai:i.bytes=bytes) (ap:z.cells.size=size) (al:0<size)
  (v:ag) (n:Nat) (O:List ag) (hs:a.eval s=v) (D:w.ownsRow base e size v n O)
  (R:ag) (m:Nat) (C:List ag) (hx:a.eval x=R) (ac:Nat) (I:w.ownsRow ac e size R m C) (h1:∀u∈C,u.oneCell'=true)
  (ae:n+m<=maxLen) (aj:(n+m)*bytes<=140737488355328) (ah:base<=w.heap.size)
  (h:∀A cv w',w'.ownsRow base e size (.slice A (n+m) cv) (n+m) (O++C)->w.grownBy w' v.ownBlock->K (a.put o.dst (.slice A (n+m) cv)) w'):
  if Region.wanted o (yielded Z a.tmps)=true then Oper.wp P o a w K Q else ab:=by
 by_cases V:0<m
 ·obtain ⟨g,c,rfl,hl,hn⟩:=nh I V;exact iZ w U s x t ho base e i z size bytes J hi an Y ai ap al v n O hs D ⟨g,0,none⟩ m c C hx hl hn h1 V ae aj ah _ rfl (fun g5 cap w' h2 ad ar au=>h _ cap w' h2 ad)
 ·obtain rfl:m=0:=by omega
  have ak:C=[]:=mq (by simpa using I.1);subst ak;obtain ⟨A,cv,rfl⟩:=ay D;have am:Region.wanted o (yielded Z a.tmps)=true:=by simp [Region.wanted,U]
  rw [if_pos am];have hrun:=run_append_nothing (P:=P) w t t o.type e i J hi A n cv (E7 D) R (by rw [Y];exact E6 J I h1);refine K3 ?_;exact h A cv w (by simpa using D) ⟨rfl,rfl,rfl,cm _,fun _ _ _=>rfl⟩
theorem qy{s1 E1 v1 TC}(A:W.ownsRow b1 E1 s1 v1 n1 TC)(k:W.ownsRow base E size v n xs)(C:W.grownBy w5 v.ownBlock)(D:E1≠E):w5.ownsRow b1 E1 s1 v1 n1 TC:=ax A (fun g cs f _ h=>C.block g (lt_of_some h) (eo k h D))
theorem eX(h:Below w.heap.size w W)(k:W.ownsRow w.heap.size E size v n xs)(A:W.grownBy w5 v.ownBlock):Below w.heap.size w w5:=dc h A h.size (fun j C=>(k.lt j C).1)
theorem via2{h:Prop}{P:Option Addr->Nat->af->Prop}{A:Option Addr->Nat->af->Act}{C:Option Addr->Nat->af->af}{K:Act->af->Prop}(main:(∀g c w,P g c w->K (A g c w) (C g c w))->h)(key:∀g c w,P g c w->K (A g c w) (C g c w)):h:=main key
theorem cf.mem{R}:∀(ns:List Nat)(xs:List Ex),cf R ns xs->∀n∈ns,∃x∈xs,R n x
 | [],[],_,n,hn=>by simp at hn
 |m::ns,x::xs,h,n,hn=>by
  rcases bA.1 hn with rfl|hn
  ·exact ⟨x,an,h.1⟩
  obtain ⟨y,D,C⟩:=cf.mem ns xs h.2 n hn;exact ⟨y,by simp [D],C⟩
 | [],_::_,h,_,_=>h.elim
 |_::_,[],h,_,_=>h.elim
theorem q9{α β:Type}(f:α->List β):∀(l:List α),(∀m∈l,0<(f m).length)->l.length<=(l.flatMap f).length
 | [],_=>an
 |a::l,h=>by
  have h1:=h a an;have h2:=q9 f l (fun m hm=>h m E5);exact xR
theorem rb(f:α->List β)(l:List α)(a:α)(C:a∈l):(f a).length<=(l.flatMap f).length:=by
 obtain ⟨p,q,rfl⟩:=List.append_of_mem C;exact KZ
theorem lG(pl):∀(f n:Nat)(x:Ex),Tr pl f n x->0<(aD pl f n).length
 |0,_,_,h=>h.elim
 |f+1,n,x,⟨p,hp,h⟩=>by
  rw [aD,hp]
  rcases h with ⟨h1,hn,h2⟩|⟨h1,h0,hn,h2⟩|⟨h1,h0,hn,h2⟩|⟨h1,h0,Q,ns,R,rs,A,C,D,I,J,O⟩|⟨h1,h0,U,Q,ns,R,rs,A,C,D,I,J,O⟩
  ·simp [h1]
  ·simp [h1]
  ·simp [h1]
  ·have:=lG pl f _ _ C;simp only [h1,true_or,if_true,A,cq,bo];omega
  have:=lG pl f _ _ C;simp only [h1,or_true,if_true,A,cq,bo];omega
theorem gU(pl):∀(f n:Nat)(x:Ex),Tr pl f n x->(aD pl f n).length<=1000->gF pl n (aD pl f n)
 |0,_,_,h,_=>h.elim
 |f+1,n,x,⟨p,hp,h⟩,hl=>by
  have ih:=gU pl f;rw [aD,hp] at hl ⊢
  rcases h with ⟨h1,hn,h2⟩|⟨h1,h0,hn,h2⟩|⟨h1,h0,hn,h2⟩|⟨h1,h0,Q,ns,x0,rs,h3,h4,h5,I,J,O⟩|⟨h1,h0,R,Q,ns,x0,rs,h3,h4,h5,I,J,O⟩
  ·exact C2
  ·exact C2
  ·exact C2
  ·simp only [h1,true_or,if_true] at hl ⊢;have key:∀m∈p.ps,∃y,Tr pl f m y:=fun m hm=>by
    exact xQ
   refine xO pl n p hp h1 (aD pl f) (fun m hm=> ?_) hl ?_
   ·exact KY
   exact KW
  simp only [h1,or_true,if_true] at hl ⊢;have key:∀m∈p.ps,∃y,Tr pl f m y:=fun m hm=>by
   exact xQ
  refine xP pl n p hp h1 (aD pl f) (fun m hm=> ?_) hl ?_
  ·exact KY
  exact KW
def jc(pl:List PV)(m:Nat):List Gr:=match pl[m]? with
 |some p=>p.gs
 |none=>[]
theorem RD(gs:List Gr):∀u∈gs.flatMap bK,u.oneCell'=true:=by
 intro u A;obtain ⟨g,_,h⟩:=cb.1 A;simp only [bK,bA,fG,fH] at h
 rcases h with rfl|rfl|rfl|rfl<;>rfl
theorem Ad(b:Nat)(kv rv pv kl rl pl l)(r:Nat)(x lv G w)(D:DM w b kv rv pv kl rl pl l)(am:rl[r]? =some x)(aE:gF pl x.ex lv)(aM:∀m∈lv,m<pl.length)(aC:lv.flatMap (jc pl)=G)(br:G.length<=1000000)(bt:lv.length<=1000):
  Calls prog 196 #[.pointer (some ⟨b,5,none⟩),.int .i64 r] w fun e w'=>∃sv,e=.returned sv/\Below w.heap.size w w'/\w'.ownsRow w.heap.size 257 4 sv G.length (G.flatMap bK):=by
 obtain ⟨a6,aK,aO,aP,aQ⟩:=bH Tryz.infoGr;have aX:=ai aK;have aY:=ai aO;have a0:=ai aP;have a1:=ai aQ;clear aK aO aP aQ;obtain ⟨g,c,rfl,k0,k1,a7,k3⟩:=D.rat r x am;have c6:=D.c6;have ah:=(be.1 am).1;have bx:(r:Int)<(rl.length:Int):=aj;have bz:=D.rn;have aT:=ai D;have ax:=ai aC;have aW:=ai aM;have C:=ai (aE b kv _ pv kl rl l w D);clear D am aE aC aM;go_enter func196,ntmps196;go_wp2_with fail;refine C.u.mono ?_;rintro e w1 ⟨sv,rfl,af,al⟩;obtain ⟨a9,ba,rfl⟩:=ay al;have au:=ai af;have aA:=ai al;have bA:=af.size;simp only [List.length_map] at*;clear af al C k0 k1 a7 k3 c6;go_wp2_with fail
 go_loopw [5,7] (fun bl ap wr=>∃(k:Nat)(fv:List Gr)(Q:Option Addr)(R:Nat),k<=lv.length/\ap=.int .i64 k/\bl=.slice Q fv.length R/\Below w.heap.size w wr/\wr.ownsRow w.heap.size 3 1 (.slice a9 lv.length ba) lv.length (lv.map fun n:Nat=> .int .i64 n)/\wr.ownsRow w.heap.size 257 4 (.slice Q fv.length R) fv.length (fv.flatMap bK)/\Hid (fv=(lv.take k).flatMap (jc pl))) (fun _ ap _=>lv.length-(intOf ap).toNat)
 case atStart=>exact ⟨0,[],none,0,aj,rfl,rfl,au.u,aA.u,bN,ai an⟩
 case round=>
  clear au aA;obtain ⟨k,fv,Q,R,bs,rfl,rfl,U,Z,ag,ac⟩:=hrel;have ab:=ai U;have az:=ai Z;have J:=ai ag;have a5:=U.size
  by_cases hlt:k<lv.length
  ·have aN:=aW.u _ (bu hlt);obtain ⟨q,bp,e1,a8⟩:=aZ Z k (.int .i64 (lv[k]:Nat)) tI;simp only [aI,true_and] at e1;obtain ⟨rfl,rfl⟩:=e1;have Y:=aT.u.below U;have ad:=ai (jt (jc pl) lv k _ (aG hlt));have aL:=nx (jc pl) lv (k+1);rw [ak ad,<-ak ac,bo,ax.u] at aL;have a4:(k:Int)<(lv.length:Int):=aj;generalize lv[k]=m at*;obtain ⟨bq,bn,ga,gc,pa,pc,sa,sc,rfl,ah,bb,bc,bf,bg,bh,bi,bj,bk⟩:=Y.pat m pl[m] (aG aN);have aJ:jc pl m=pl[m].gs:=by unfold jc;rw [aG aN]
   rw [aJ] at ad aL;have c7:=Y.c7;have bw:=Y.pn;have bv:(m:Int)<(pl.length:Int):=aj;have aB:=ai ah.g;generalize pl[m]=p at*;clear U Z ag Y ah aJ;go_wp2_with fail;have av:=ai (show fv.length+p.gs.length<=maxLen from by unfold maxLen;omega);have aw:=ai (show (fv.length+p.gs.length)*48<=140737488355328 from aj);rename_i K aD;apply via2 (K:=K) (P:=fun O cv w5=>wr.drew.grownBy w5 (Value.slice Q fv.length R).ownBlock/\w5.ownsRow w.heap.size 257 4 (.slice O (fv.length+p.gs.length) cv) (fv.length+p.gs.length) (fv.flatMap bK++p.gs.flatMap bK))
   case main=>
    intro key;have a2:=ai key;clear key
    go_region_law (refine qx rfl (.tmp 24) (.tmp 35) 253 rfl w.heap.size 257 a6 _ 4 48 underlying253 aX.u aY.u a0.u a1.u rfl ar (.slice Q fv.length R) fv.length (fv.flatMap bK) eW (bX J.u) (.slice ga p.gs.length gc) p.gs.length (p.gs.flatMap bK) eW 0 (bX aB.u) (RD _) av.u aw.u a5 ?_;intro O cv w5 V I;have aS:=ai I;have ae:=ai V;clear I V)
    all_goals exact a2.u O cv w5 ⟨aS.u,ae.u⟩
   case key=>
    rintro O cv w5 ⟨I,V⟩;have aR:=ai (eX ab.u.drew (bX J.u) I);have a3:=ai (qy (bX az.u) (bX J.u) I ar);have ae:=ai V;clear V I ab J az aB av aw bb bc bf bg bh bi bj bk c7 a8;refine aD _ _ ?_;clear aD;go_wp2;go_roundw
    case rel=>exact ⟨k+1,fv++p.gs,O,cv,aj,by go_num,an,aR.u,a3.u,by simpa using ae.u,ai (by rw [ak ac,ak ad])⟩
    case measure=>simp [intOf];omega
  have a4:¬((k:Int)<(lv.length:Int)):=aj;have aH:fv=G:=by rw [ak ac,eh aj,ax.u]
  have aU:=ai aH;clear U Z ag aH;go_wp2;go_ret;rw [<-aU.u];exact ⟨_,rfl,ab.u,J.u⟩
def K9 (C:aF:=by
 go_wp2;go_roundw
 case rel=>exact ⟨k+1,fv,fa,fc,aj,by go_num,rfl,B2.u,G2.u,R2.u,ai La.u.symm⟩
 case measure=>simp [intOf];omega):aF:=C
theorem xS(a):eqs a em=(a.toList== []):=by rw [aJ,show em.toList=[] from by rw [aO];rfl]
def T9(rl:List RV)(pl:List PV)(r:Nat)(G:List Gr):Prop:=∀(b:Nat) (kv rv pv:ag) (kl:List (ae×Nat)) (l:List PX) (w:af),DM w b kv rv pv kl rl pl l->
 Calls prog 196 #[.pointer (some ⟨b,5,none⟩),.int .i64 r] w fun e w'=>∃sv,e=.returned sv/\Below w.heap.size w w'/\w'.ownsRow w.heap.size 257 4 sv G.length (G.flatMap bK)
theorem cU(k n):∀(l:List RV)(i:Nat),aU k n l i= -1\/∃j:Nat,aU k n l i=j/\i<=j/\j<i+l.length
 | [],i=> .inl rfl
 |x::l,i=>by
  rw [aU]
  split
  ·exact .inr ⟨i,rfl,aj,an⟩
  rcases cU k n l (i+1) with C|⟨j,h1,h2,D⟩
  ·exact .inl C
  exact .inr ⟨j,h1,aj,aM⟩
def gV(rl:List RV)(rel:ae)(g:Gr):List Nat:=if eqs (b9 g) em&&decide (0<=aU g.ty rel rl 0) then [(aU g.ty rel rl 0).toNat] else []
def fe(rl:List RV)(rel:ae)(G:List Gr):List Nat:=G.flatMap (gV rl rel)
theorem Lb(rl rel g):(gV rl rel g).length<=1:=by unfold gV;split<;>simp
theorem xT(rl rel):∀(G:List Gr),(fe rl rel G).length<=G.length
 | []=>by simp [fe]
 |g::G=>by
  have h1:=Lb rl rel g;have h2:=xT rl rel G;unfold fe at*;exact xR
theorem wg(b kv rv pv kl rl pl l r I y w)(V:DM w b kv rv pv kl rl pl l)(aC:T9 rl pl r I)(a1:I.length<=1000000):
  Calls prog 230 #[.pointer (some ⟨b,5,none⟩),.int .i64 r,.string y] w fun e w'=>∃sv,e=.returned sv/\Below w.heap.size w w'/\w'.ownsRow w.heap.size 3 1 sv (fe rl y I).length ((fe rl y I).map fun n:Nat=> .int .i64 n):=by
 obtain ⟨a7,aJ,aN,aO,aP⟩:=bH Tryz.infoInt;have aW:=ai aJ;have aX:=ai aN;have aY:=ai aO;have aZ:=ai aP;clear aJ aN aO aP;have aS:=ai V;have bn:=V.rn;have C:=ai (aC b kv rv pv kl l w V);generalize ae:fe rl y I=T;have az:=ai (show I.flatMap (gV rl y)=T from ae);have bg:T.length<=1000000:=by rw [<-ae];exact aL (xT rl y I) a1
 clear V aC ae;go_enter func230,ntmps230;go_wp2_with fail;refine C.u.mono ?_;rintro e w1 ⟨sv,rfl,aD,am⟩;obtain ⟨a8,a9,rfl⟩:=ay am;have av:=ai aD;have ax:=ai am;clear aD am C;go_wp2_with fail
 go_loopw [7,9] (fun bb au wr=>∃(k:Nat)(fv:List Nat)(fa:Option Addr)(fc:Nat),k<=I.length/\au=.int .i64 k/\bb=.slice fa fv.length fc/\Below w.heap.size w wr/\wr.ownsRow w.heap.size 257 4 (.slice a8 I.length a9) I.length (I.flatMap bK)/\wr.ownsRow w.heap.size 3 1 (.slice fa fv.length fc) fv.length (fv.map fun n:Nat=> .int .i64 n)/\Hid (fv=(I.take k).flatMap (gV rl y))) (fun _ au _=>I.length-(intOf au).toNat)
 case atStart=>exact ⟨0,[],none,0,aj,rfl,rfl,av.u,ax.u,bN,ai an⟩
 case round=>
  clear av ax;obtain ⟨k,fv,fa,fc,bl,rfl,rfl,R,Z,al,Q⟩:=hrel;have ac:=ai R;have ad:=ai al;have aw:=ai Z;have a6:=R.size
  by_cases ah:k<I.length
  ·obtain ⟨aA,bc,e1,hc⟩:=bi bK 4 (fun _=>rfl) Z k I[k] (aG ah);simp only [aI,true_and] at e1;obtain ⟨rfl,rfl⟩:=e1;have U:=ai (jt (gV rl y) I k _ (aG ah));have ag:=nx (gV rl y) I (k+1);rw [U.u,<-ak Q,bo,az.u] at ag;have a4:(k:Int)<(I.length:Int):=aj;have aU:=ai (aG ah);generalize I[k]=x at*;have k0:wr.cell? ⟨aA,k*4,none⟩=some (.string x.ty):=hc 0 _ aj rfl;have C:=ai (dI b kv rv pv kl rl pl l x.ty y wr (aS.u.below R));clear R Z al hc;go_wp2_with fail;refine C.u.mono ?_;rintro e ab ⟨rfl,Y⟩;have B2:=ai (ac.u.trans (Y.mono a6));have G2:=ai (aE aw.u Y);have R2:=ai (aE ad.u Y);obtain ⟨bf,be,e1,hc⟩:=bi bK 4 (fun _=>rfl) G2.u k x aU.u;simp only [aI,true_and,aK,cw,and_true] at e1;obtain ⟨rfl,rfl⟩:=e1;have k1:ab.cell? ⟨aA,k*4+1,none⟩=some (.string (b9 x)):=hc 1 _ aj rfl;have ba:=B2.u.size;clear Y C ac aw ad hc k0
   cases J:eqs (b9 x) em
   ·have a5:((b9 x).toList== [])=false:=by rw [<-J,xS]
    have La:=ai (show (I.take (k+1)).flatMap (gV rl y)=fv from by rw [U.u,<-ak Q];simp [gV,J]);clear J;exact K9
   have a5:((b9 x).toList== [])=true:=by rw [<-J,xS]
   rcases cU x.ty y rl 0 with O|⟨j,O,bj,bk⟩
   ·have La:=ai (show (I.take (k+1)).flatMap (gV rl y)=fv from by rw [U.u,<-ak Q];simp [gV,O]);clear J;rw [O];exact K9
   have ap:gV rl y x=[j]:=by simp [gV,J,O]
   have La:=ai (show (I.take (k+1)).flatMap (gV rl y)=fv++[j] from by rw [U.u,<-ak Q,ap]);rw [ap] at ag;simp only [List.length_cons,List.length_nil] at ag;clear J ap;rw [O];have bh:(0:Int)<=(j:Int):=aj;clear O;go_wp2_with (at_builtin;go_must (refine bD _ rfl _ _ 29 rfl w.heap.size 3 a7 _ 1 8 underlying29 aW.u aX.u aY.u aZ.u rfl ar (.slice fa fv.length fc) fv.length (fv.map fun n:Nat=> .int .i64 n) rfl (R2.u.alloc _) ⟨ab.heap.size,0,none⟩ 1 1 [.int .i64 j] rfl rfl ?hnews ?hone ar ?h63 ?hbytes ?hbase (ab.heap.size+1) ?hH ?hrest))
   case hnews=>exact bE (B:=ab.heap.size) (cs:=#[.int .i64 j]) (t:=3) (fr:=(0,0)) (aB.new' _ _ _ _ rfl)
   case hone=>
    exact ow
   case h63=>unfold maxLen;omega
   case hbytes=>omega
   case hbase=>simp;omega
   case hH=>simp
   intro g5 aV w5 aM af a2 a3;have aQ:=ai (eX (B2.u.alloc ba _) (R2.u.alloc _) af);have aR:=ai (qy (G2.u.alloc _) (R2.u.alloc _) af ar);have a0:=ai aM;clear aM af a2 a3 B2 G2 R2 k1;go_wp2;go_roundw
   case rel=>exact ⟨k+1,fv++[j],some ⟨g5,0,none⟩,aV,aj,by go_num,an,aQ.u,aR.u,by simpa using a0.u,ai La.u.symm⟩
   case measure=>simp [intOf];omega
  have a4:¬((k:Int)<(I.length:Int)):=aj;have aH:fv=T:=by rw [ak Q,eh aj,az.u]
  have aT:=ai aH;clear R Z al aH;go_wp2;go_ret;rw [<-aT.u];exact ⟨_,rfl,ac.u,ad.u⟩
def Lc (C:aF:=by
 have A:=ai (show some p.pa=R from by rw [<-E8.u,hfi];simp);rw [hfi];clear hfi;go_wp2;go_ret;exact ⟨by rw [<-A.u];rfl,B4.u⟩):aF:=C
def C6 (C:aF:=by
 go_wp2;go_roundw
 case rel=>exact ⟨k+1,aj,by go_num,B4.u,Qr.u,q5⟩
 case measure=>simp [intOf];omega):aF:=C
def C8 (A:aF:=by
 go_wp2;go_ret;exact ⟨by rw [<-Gx.u];rfl,B4.u⟩):aF:=A
def Da (A:aF:=by
 go_wp2;go_ret;exact ⟨by rw [<-Gx.u];rfl,B5.u⟩):aF:=A
def nJ(kl:List (ae×Nat))(rl:List RV)(g:Gr):Option Nat:=
 if (kl.any fun k=>eqs k.1 g.ty)=false then some g.tp
 else if eqs (b9 g) em=false/\eqs (b9 g) (sg 42)=false/\aU g.ty (b9 g) rl 0<0 then some g.rp else none
def Db(kl:List (ae×Nat))(rl:List RV)(h:Nat->List Gr)(kd:ae)(p:PV):Option Nat:=match p.gs.findSome? (nJ kl rl) with
 |some a=>some a
 |none=>if p.kind=2 then (if aU kd p.nr rl 0<0 then some p.pa else none)
  else if p.kind=3 then (if aU kd p.nb rl 0<0 then some p.pa else if fe rl p.nr (h (aU kd p.nb rl 0).toNat)=[] then some p.pr else none)
  else none
def kq:Option Nat->Int
 |some a=>a
 |none=> -1
theorem Af(b kv rv pv kl rl pl l dk kd p ga gc pa pc sa sc w)(be:DM w b kv rv pv kl rl pl l)(bf:∀r,r<rl.length->T9 rl pl r (dk r)/\(dk r).length<=1000000)(bn:kj w (p,.slice ga p.gs.length gc,.slice pa p.ps.length pc,.slice sa p.sg.length sc))(bC:p.gs.length<=1000000):
  Calls prog 192 #[.pointer (some ⟨b,5,none⟩),.string kd,.agg #[.int .i64 p.kind,.slice ga p.gs.length gc,.string p.nb,.string p.nr,.int .i64 p.pa,.int .i64 p.pr,.slice pa p.ps.length pc,.slice sa p.sg.length sc]] w fun e w'=>e=.returned (.int .i64 (kq (Db kl rl dk kd p)))/\Below w.heap.size w w':=by
 have ag:=ai be;have bp:=ai bf;have br:=ai bn.g;generalize aD:Db kl rl dk kd p=R;have bq:=ai aD;have b1:=(aw _ w).alloc az (ct p.kind ga p.gs.length gc p.nb p.nr p.pa p.pr pa p.ps.length pc sa p.sg.length sc);have aN:=ai b1;have aS:=ai (aB.new w #[.int .i64 p.kind,.slice ga p.gs.length gc,.string p.nb,.string p.nr,.int .i64 p.pa,.int .i64 p.pr,.slice pa p.ps.length pc,.slice sa p.sg.length sc] 255);have aR:=ai (show (match (p.gs.drop 0).findSome? (nJ kl rl) with
  |some a=>some a
  |none=>if p.kind=2 then (if aU kd p.nr rl 0<0 then some p.pa else none)
   else if p.kind=3 then (if aU kd p.nb rl 0<0 then some p.pa else if fe rl p.nr (dk (aU kd p.nb rl 0).toNat)=[] then some p.pr else none)
   else none)=R from aD)
 clear be bf bn aD b1;go_enter func192,ntmps192;go_wp2_with fail
 go_loopw [7] (fun aL wr=>∃(k:Nat),k<=p.gs.length/\aL=.int .i64 k/\Below w.heap.size w wr/\aB wr w.heap.size #[.int .i64 p.kind,.slice ga p.gs.length gc,.string p.nb,.string p.nr,.int .i64 p.pa,.int .i64 p.pr,.slice pa p.ps.length pc,.slice sa p.sg.length sc] 255/\Hid ((match (p.gs.drop k).findSome? (nJ kl rl) with
  |some a=>some a
  |none=>if p.kind=2 then (if aU kd p.nr rl 0<0 then some p.pa else none)
   else if p.kind=3 then (if aU kd p.nb rl 0<0 then some p.pa else if fe rl p.nr (dk (aU kd p.nb rl 0).toNat)=[] then some p.pr else none)
   else none)=R)) (fun aL _=>p.gs.length-(intOf aL).toNat)
 case atStart=>exact ⟨0,aj,rfl,aN.u,aS.u,aR⟩
 case round=>
  clear aN aS aR bq;obtain ⟨k,bD,rfl,ah,al,ar⟩:=hrel;have HB:=ai ah;have aA:=ai al;have aK:=ah.size;obtain ⟨U,p1,p2,V,Y,Z,ab,ac⟩:=al.eight;have bF:=al.lt
  by_cases bl:k<p.gs.length
  ·obtain ⟨au,bz,e1,hc⟩:=bi bK 4 (fun _=>rfl) (aE br.u ah) k p.gs[k] (aG bl);simp only [aI,true_and] at e1;obtain ⟨rfl,rfl⟩:=e1;have D:=ak ar;rw [dw bl,gq] at D;generalize p.gs[k]=x at*;have k0:wr.cell? ⟨au,k*4,none⟩=some (.string x.ty):=hc 0 _ aj rfl;have k1:wr.cell? ⟨au,k*4+1,none⟩=some (.string (b9 x)):=hc 1 _ aj rfl;have bw:wr.cell? ⟨au,k*4+2,none⟩=some (.int .i64 x.tp):=hc 2 _ aj rfl;have k3:wr.cell? ⟨au,k*4+3,none⟩=some (.int .i64 x.rp):=hc 3 _ aj rfl;have bu:(k:Int)<(p.gs.length:Int):=aj;have aC:=(aw _ wr).alloc az (.cells #[.string x.ty,.string (b9 x),.int .i64 x.tp,.int .i64 x.rp] 257);have am:=ai (HB.u.trans (aC.mono aK));have aT:=ai (aA.u.below aC);have aP:=ai (aB.new wr #[.string x.ty,.string (b9 x),.int .i64 x.tp,.int .i64 x.rp] 257);have C:=ai (q4 b kv rv pv kl rl pl l x.ty _ (ag.u.below am.u));have E8:=ai D;clear ah al hc ar D aC;go_wp2_with fail;refine C.u.mono ?_;rintro e bI ⟨rfl,av⟩;have an:=ai (am.u.trans (av.mono am.u.size));have aW:=ai (aT.u.below av);have ap:=ai (aP.u.below av);obtain ⟨g0,ba,bb,bc⟩:=ap.u.four;have bA:=ap.u.lt;have af:=ai (dI b kv rv pv kl rl pl l x.ty (b9 x) _ (ag.u.below an.u));clear av C am aT aP k0 k1 bw k3 U p1 p2 V Y Z ab ac;go_wp2_with fail;refine af.u.mono ?_;rintro e aM ⟨rfl,J⟩;have B4:=ai (an.u.trans (J.mono an.u.size));have Qr:=ai (aW.u.below J);have aQ:=ai (ap.u.below J);clear g0 ba bb bc;obtain ⟨g0,ba,bb,bc⟩:=aQ.u.four;have bB:=aQ.u.lt;clear J af an aW ap
   cases O:(kl.any fun k=>eqs k.1 x.ty)
   ·have I:nJ kl rl x=some x.tp:=by unfold nJ;rw [O];simp
    have Gx:=ai (show some x.tp=R from by rw [<-E8.u,I]);clear O I;exact C8
   cases h1:eqs (b9 x) em
   ·have bs:((b9 x).toList== [])=false:=by rw [<-h1,xS]
    cases h2:eqs (b9 x) (sg 42)
    ·have bt:((b9 x).toList== [42])=false:=by rw [<-h2,aJ];rw [show (sg 42).toList=[42] from by rw [aO];rfl]
     rcases cU x.ty (b9 x) rl 0 with hfi|⟨j,hfi,bj,bk⟩
     ·have I:nJ kl rl x=some x.rp:=by unfold nJ;rw [O];simp [h1,h2,hfi]
      have Gx:=ai (show some x.rp=R from by rw [<-E8.u,I]);rw [hfi];clear O I h1 h2 hfi;exact C8
     have I:nJ kl rl x=none:=by
      unfold nJ;rw [O];have:¬((j:Int)<0):=aj;simp [h1,h2,hfi,this]
     have q5:=ai E8.u;rw [I] at q5;rw [hfi];have ax:¬((j:Int)<0):=aj;clear O I h1 h2 hfi;exact C6
    have bt:((b9 x).toList== [42])=true:=by rw [<-h2,aJ];rw [show (sg 42).toList=[42] from by rw [aO];rfl]
    have I:nJ kl rl x=none:=by unfold nJ;rw [O];simp [h1,h2]
    have q5:=ai E8.u;rw [I] at q5;clear O I h1 h2;exact C6
   have bs:((b9 x).toList== [])=true:=by rw [<-h1,xS]
   have I:nJ kl rl x=none:=by unfold nJ;rw [O];simp [h1]
   have q5:=ai E8.u;rw [I] at q5;clear O I h1;exact C6
  have bu:¬((k:Int)<(p.gs.length:Int)):=aj;have D:=ak ar;rw [eK aj,List.findSome?_nil] at D;simp only at D;clear ah al ar
  by_cases Q:p.kind=2
  ·have aY:((p.kind:Int)==2)=true:=by rw [Q];rfl
   have aZ:((p.kind:Int)==3)=false:=by rw [Q];rfl
   rw [if_pos Q] at D;have E8:=ai D;have C:=ai (dI b kv rv pv kl rl pl l kd p.nr wr (ag.u.below HB.u));clear Q D;go_wp2_with fail;refine C.u.mono ?_;rintro e aM ⟨rfl,J⟩;have B4:=ai (HB.u.trans (J.mono aK));have Qr:=ai (aA.u.below J);clear U p1 p2 V Y Z ab ac;obtain ⟨U,p1,p2,V,Y,Z,ab,ac⟩:=Qr.u.eight;have bx:=Qr.u.lt;clear J C
   rcases cU kd p.nr rl 0 with hfi|⟨j,hfi,bj,bk⟩
   ·exact Lc
   have ax:¬((j:Int)<0):=aj;have Gx:=ai (show none=R from by rw [<-E8.u,hfi];simp [ax]);rw [hfi];clear hfi;exact C8
  by_cases ad:p.kind=3
  ·have aY:((p.kind:Int)==2)=false:=by rw [ad];rfl
   have aZ:((p.kind:Int)==3)=true:=by rw [ad];rfl
   rw [if_neg Q,if_pos ad] at D;have E8:=ai D;have C:=ai (dI b kv rv pv kl rl pl l kd p.nb wr (ag.u.below HB.u));clear Q ad D;go_wp2_with fail;refine C.u.mono ?_;rintro e aM ⟨rfl,J⟩;have B4:=ai (HB.u.trans (J.mono aK));have Qr:=ai (aA.u.below J);clear U p1 p2 V Y Z ab ac;obtain ⟨U,p1,p2,V,Y,Z,ab,ac⟩:=Qr.u.eight;have bx:=Qr.u.lt;clear J C
   rcases cU kd p.nb rl 0 with hfi|⟨j,hfi,bj,bk⟩
   ·exact Lc
   have ax:¬((j:Int)<0):=aj;have D:=E8.u;rw [hfi,if_neg ax,Int.toNat_natCast] at D;have q5:=ai D;obtain ⟨bg,bh⟩:=bp.u j aj;have af:=ai (wg b kv rv pv kl rl pl l j (dk j) p.nr aM (ag.u.below B4.u) bg bh);rw [hfi];clear hfi D E8 bg bh;go_wp2_with fail;refine af.u.mono ?_;rintro e w5 ⟨sv,rfl,aH,bo⟩;obtain ⟨ta,tc,rfl⟩:=ay bo;have B5:=ai (B4.u.trans (aH.mono B4.u.size));have aX:=ai (Qr.u.below aH);clear U p1 p2 V Y Z ab ac;obtain ⟨U,p1,p2,V,Y,Z,ab,ac⟩:=aX.u.eight;have bH:=aX.u.lt;clear aH bo af
   by_cases ae:fe rl p.nr (dk j)=[]
   ·have Gx:=ai (show some p.pr=R from by rw [<-ak q5,ae];simp);rw [ae];clear ae;simp only [List.length_nil];exact Da
   have Gx:=ai (show none=R from by rw [<-ak q5,if_neg ae]);have hl:0<(fe rl p.nr (dk j)).length:=mg.2 ae;have bv:¬(((fe rl p.nr (dk j)).length:Int)=0):=aj;have bE:(((fe rl p.nr (dk j)).length:Int)==0)=false:=bG.2 bv;clear ae;generalize (fe rl p.nr (dk j)).length=tn at*;exact Da
  have aY:((p.kind:Int)==2)=false:=bG.2 aj;have aZ:((p.kind:Int)==3)=false:=bG.2 aj;rw [if_neg Q,if_neg ad] at D;have Gx:=ai D;clear Q ad D;exact td
def RF(rl:List RV)(pl:List PV)(h:Nat->List Nat):Prop:=∀x∈rl,gF pl x.ex (h x.ex)/\(h x.ex).length<=1000/\∀n∈h x.ex,∃p,pl[n]? =some p/\p.gs.length<=1000
def mR(rl:List RV)(pl:List PV)(h:Nat->List Gr):Prop:=∀r,r<rl.length->T9 rl pl r (h r)/\(h r).length<=1000000
def pp(kl:List (ae×Nat))(rl:List RV)(pl:List PV)(h:Nat->List Gr)(kd:ae)(n:Nat):Option Nat:=match pl[n]? with
 |some p=>Db kl rl h kd p
 |none=>none
def jO(kl:List (ae×Nat))(rl:List RV)(pl:List PV)(h:Nat->List Gr)(A:Nat->List Nat):Option Nat:=rl.findSome? fun x=>(A x.ex).findSome? (pp kl rl pl h x.kd)
theorem De(b kv rv pv kl rl pl l dk ff w)(U:DM w b kv rv pv kl rl pl l)(aO:mR rl pl dk)(aP:RF rl pl ff):
  Calls prog 129 #[.pointer (some ⟨b,5,none⟩)] w fun e w'=>e=.returned (.int .i64 (kq (jO kl rl pl dk ff)))/\Below w.heap.size w w':=by
 obtain ⟨bI,rc,rfl⟩:=ay U.rt;have ab:=ai U;have bf:=ai aO;have bg:=ai aP;have bE:=U.rn;have bD:=U.pn;generalize aR:jO kl rl pl dk ff=ap;have aL:=ai (show ((rl.drop 0).findSome? fun x=>(ff x.ex).findSome? (pp kl rl pl dk x.kd))=ap from aR);clear U aO aP aR;go_enter func129,ntmps129;go_wp2_with fail
 go_loopw [3] (fun az wr=>∃(i:Nat),i<=rl.length/\az=.int .i64 i/\Below w.heap.size w wr/\Hid (((rl.drop i).findSome? fun x=>(ff x.ex).findSome? (pp kl rl pl dk x.kd))=ap)) (fun az _=>rl.length-(intOf az).toNat)
 case atStart=>exact ⟨0,aj,rfl,aw _ _,aL⟩
 case round=>
  clear aL;obtain ⟨i,hi,rfl,O,ad⟩:=hrel;have c6:=(ab.u.below O).c6;have HB:=ai O;have bq:=O.size
  by_cases ae:i<rl.length
  ·have bn:(i:Int)<(rl.length:Int):=by omega
   obtain ⟨gr,cr,e1,ah,a8,a9,bb⟩:=(ab.u.below O).rat i rl[i] (aG ae);simp only [aI,true_and] at e1;obtain ⟨rfl,rfl⟩:=e1;have J:=ak ad;rw [dw ae,gq] at J;obtain ⟨aS,bz,aT⟩:=bg.u _ (bu ae);have bk:=ai (aG ae);generalize rl[i]=x at*;have C:=ai (aS b kv _ pv kl rl l wr (ab.u.below O));generalize bp:ff x.ex=lv at*;clear bp;have bh:=ai aT;generalize aQ:lv.findSome? (pp kl rl pl dk x.kd)=aM at J;have aD:=ai (show (lv.drop 0).findSome? (pp kl rl pl dk x.kd)=aM from aQ);have aH:=ai J;clear O ad J aS aT aQ;go_wp2_with fail;refine C.u.mono ?_;rintro e w1 ⟨sv,rfl,ar,ax⟩;obtain ⟨bG,bH,rfl⟩:=ay ax;have aB:=ai (HB.u.trans (ar.mono bq));have bj:=ai ax;have bF:=ar.size;clear ar ax C ah a8 a9 bb c6;go_wp2_with fail
   go_loopw [5] (fun aA br=>∃(k:Nat),k<=lv.length/\aA=.int .i64 k/\Below w1.heap.size w1 br/\Hid ((lv.drop k).findSome? (pp kl rl pl dk x.kd)=aM)) (fun aA _=>lv.length-(intOf aA).toNat)
   case atStart=>exact ⟨0,aj,rfl,aw _ _,aD⟩
   case round=>
    clear aD;obtain ⟨k,bx,rfl,O,ac⟩:=hrel;have V:=aB.u.trans (O.mono aB.u.size);have Z:=ai O;have al:=ai V;have aX:=V.size
    by_cases au:k<lv.length
    ·have bo:(k:Int)<(lv.length:Int):=by omega
     have R:=ab.u.below V;have c6:=R.c6;have c7:=R.c7;obtain ⟨bw,bv,e1,ah,a8,a9,bb⟩:=R.rat i x bk.u;simp only [aI,true_and,aK,cw,and_true] at e1;obtain ⟨rfl,rfl⟩:=e1;obtain ⟨q,bt,e1,aY⟩:=aZ (aE bj.u O) k (.int .i64 (lv[k]:Nat)) (by simp [aG au]);simp only [aI,true_and] at e1;obtain ⟨rfl,rfl⟩:=e1;have J:=ak ac;rw [dw au,gq] at J;obtain ⟨p,af,bC⟩:=bh.u _ (bu au);generalize lv[k]=m at*;obtain ⟨I,aN,ga,gc,pa,pc,sa,sc,av,aU,a0,a1,a2,a3,a4,a5,a6,a7⟩:=R.pat m p af;have bA:=(be.1 af).1;have bB:(m:Int)<(pl.length:Int):=aj;have aW:pp kl rl pl dk x.kd m=Db kl rl dk x.kd p:=by unfold pp;rw [af]
     rw [aW] at J;have aJ:=ai J;have an:=ai aU;have bc:=ai R;rw [av] at c7;have bs:=ai av;clear O V R aU ac J af aW av;have Q:=ai (Af b kv _ pv kl rl pl l dk x.kd p ga gc pa pc sa sc wr.drew (bc.u.below ba.drew) bf.u ⟨bX an.u.g,bX an.u.p,bX an.u.s⟩ aj);generalize Db kl rl dk x.kd p=bl at*;go_wp2_with fail
     cases bl with
     |some at_=>
      unfold kq at Q;simp only at Q
      go_region_held3 (fun w'=>w'.cell? ⟨b,6,none⟩=some (.slice (some ⟨gr,0,none⟩) rl.length rc)/\w'.cell? ⟨gr,i*4,none⟩=some (.string x.kd)/\w'.cell? ⟨b,7,none⟩=some (.slice (some ⟨I,0,none⟩) pl.length aN)/\w'.cell? ⟨q,k,none⟩=some (.int .i64 m)/\w'.cell? ⟨I,m*8,none⟩=some (.int .i64 p.kind)/\w'.cell? ⟨I,m*8+1,none⟩=some (.slice ga p.gs.length gc)/\w'.cell? ⟨I,m*8+2,none⟩=some (.string p.nb)/\w'.cell? ⟨I,m*8+3,none⟩=some (.string p.nr)/\w'.cell? ⟨I,m*8+4,none⟩=some (.int .i64 p.pa)/\w'.cell? ⟨I,m*8+5,none⟩=some (.int .i64 p.pr)/\w'.cell? ⟨I,m*8+6,none⟩=some (.slice pa p.ps.length pc)/\w'.cell? ⟨I,m*8+7,none⟩=some (.slice sa p.sg.length sc)) (go_keep)
       ((go_at_call 192;refine (ak Q).mono ?_;rintro e w5 ⟨rfl,Y⟩;have D:Below wr.heap.size wr w5:=(aw _ wr).drew.trans Y;have d0:=am c6 D;have d1:=am ah D;have d2:=am c7 D;have d3:=am aY D;have d4:=am a0 D;have d5:=am a1 D;have d6:=am a2 D;have d7:=am a3 D;have d8:=am a4 D;have d9:=am a5 D;have d10:=am a6 D;have d11:=am a7 D;have B5:=ai (al.u.trans (D.mono aX));have aC:=ai (Z.u.trans (D.mono Z.u.size));clear Y D))
      have Gx:=ai (show some at_=ap from by
       have h2:=aH.u;rw [<-aJ.u] at h2;exact h2)
      have h0:(0:Int)<=(at_:Int):=aj;exact Da
     |none=>
      unfold kq at Q;simp only at Q
      go_region_held3 (fun w'=>w'.cell? ⟨b,6,none⟩=some (.slice (some ⟨gr,0,none⟩) rl.length rc)/\w'.cell? ⟨gr,i*4,none⟩=some (.string x.kd)/\w'.cell? ⟨b,7,none⟩=some (.slice (some ⟨I,0,none⟩) pl.length aN)/\w'.cell? ⟨q,k,none⟩=some (.int .i64 m)/\w'.cell? ⟨I,m*8,none⟩=some (.int .i64 p.kind)/\w'.cell? ⟨I,m*8+1,none⟩=some (.slice ga p.gs.length gc)/\w'.cell? ⟨I,m*8+2,none⟩=some (.string p.nb)/\w'.cell? ⟨I,m*8+3,none⟩=some (.string p.nr)/\w'.cell? ⟨I,m*8+4,none⟩=some (.int .i64 p.pa)/\w'.cell? ⟨I,m*8+5,none⟩=some (.int .i64 p.pr)/\w'.cell? ⟨I,m*8+6,none⟩=some (.slice pa p.ps.length pc)/\w'.cell? ⟨I,m*8+7,none⟩=some (.slice sa p.sg.length sc)) (go_keep)
       ((go_at_call 192;refine (ak Q).mono ?_;rintro e w5 ⟨rfl,Y⟩;have D:Below wr.heap.size wr w5:=(aw _ wr).drew.trans Y;have d0:=am c6 D;have d1:=am ah D;have d2:=am c7 D;have d3:=am aY D;have d4:=am a0 D;have d5:=am a1 D;have d6:=am a2 D;have d7:=am a3 D;have d8:=am a4 D;have d9:=am a5 D;have d10:=am a6 D;have d11:=am a7 D;have B5:=ai (al.u.trans (D.mono aX));have aC:=ai (Z.u.trans (D.mono Z.u.size));clear Y D))
      go_wp2;go_roundw
      case rel=>exact ⟨k+1,aj,by go_num,aC.u,ai aJ.u⟩
      case measure=>simp [intOf];omega
    have bo:¬((k:Int)<(lv.length:Int)):=aj;have J:=ak ac;rw [eK aj,List.findSome?_nil] at J;have ag:=aH.u;rw [<-J] at ag;simp only at ag;have bi:=ai ag;clear O V ac J ag;go_wp2;go_roundw
    case rel=>exact ⟨i+1,aj,by go_num,al.u,bi⟩
    case measure=>simp [intOf];omega
  have bn:¬((i:Int)<(rl.length:Int)):=aj;have J:=ak ad;rw [eK aj,List.findSome?_nil] at J;have Gx:=ai J;clear O ad J;exact td
