import Derived.Test.YtlbpnlngckgcbaaGreatDoorM20
import Derived.Test.YtlbpnlngckgcbaaGreatDoorM21
import Derived.Test.YtlbpnlngckgcbaaGreatDoorM22
set_option linter.all false
set_option maxHeartbeats 4000000
set_option maxRecDepth 100000
namespace Go.Proofs.YtlbpnlngckgcbaaGreatDoor
open Go.RowKit Go.PlainAid Go.Proofs.Tryz
section
variable {aA aU:Prop} {w w' y z:af} {base size n b g:Nat} {e T:TypeId} {v kv rv pv:ag} {xs:List ag} {rl:List RV} {pl:List PV} {cs:Array ag}
def Do (h:aA:=by
 unfold RT;decide):aA:=h
def RT(T:TypeId):Prop:=T=252\/T=170\/T=172\/T=255\/T=257\/T=3\/T=259
def KD(w w':af):Prop:=∀(g:Nat)(cs:Array ag)(T:TypeId)(f:Nat×Nat),w.heap[g]? =some (Obj.cells cs T f)->RT T->w'.heap[g]? =w.heap[g]?
def KD.of_butS{S}(h:bG S w w')(C:∀g cs T f,S g->w.heap[g]? =some (Obj.cells cs T f)->¬RT T):KD w w':=fun g cs T f A D=>h.block g (lt_of_some A) (fun hs=>C g cs T f hs A D)
def KD.below(h:an w w'):KD w w':=fun g cs T f A _=>h.block g (lt_of_some A)
def KD.row(k:KD w w')(h:w.ownsRow base e size v n xs)(A:RT e):w'.ownsRow base e size v n xs:=ay h (fun g cs f _ C=>k g cs _ f C A)
structure YP(w:af)(b:Nat)(kv rv pv:ag)(kl:List (ae×Nat))(rl:List RV)(pl:List PV)(l:List PX):Prop where
 dm:DM w b kv rv pv kl rl pl l
 blk:∃cs,aE w b cs 252
def YP.kd{kl l}(h:YP w b kv rv pv kl rl pl l)(k:KD w w'):YP w' b kv rv pv kl rl pl l:=by
 obtain ⟨cs,D⟩:=h.blk;have e:=k b cs _ _ D (.inl rfl);have hc:∀o v,w.cell? ⟨b,o,none⟩=some v->w'.cell? ⟨b,o,none⟩=some v:=fun o v hv=>(ji (w:=w) e).trans hv
 have A:=h.dm;refine ⟨⟨hc _ _ A.c5,hc _ _ A.c6,hc _ _ A.c7,k.row A.kt (.inr (.inl rfl)),k.row A.rt (.inr (.inr (.inl rfl))),⟨A.pt.fst,k.row A.pt.row (.inr (.inr (.inr (.inl rfl)))),fun x I=> ?_⟩,A.kn,A.rn,A.pn⟩,cs,e.trans D⟩;have C:=A.pt.rep x I;exact ⟨k.row C.g (.inr (.inr (.inr (.inr (.inl rfl))))),k.row C.p (.inr (.inr (.inr (.inr (.inr (.inl rfl)))))),k.row C.s (.inr (.inr (.inr (.inr (.inr (.inr rfl))))))⟩
def KD.set(h:aE w g cs T)(C:¬RT T)(o u):KD w (w.setCell ⟨g,o,none⟩ u):=fun g' I T' f A D=>dN _ _ _ _ (fun (e':g'=g)=>by
 subst e';unfold aE at h;rw [h] at A;simp only [aL,uU] at A;exact C (by rw [A.2.1];exact D))
def KD.trans{x}(h:KD x y)(k:KD y z):KD x z:=fun g cs T f A C=>(k g cs T f ((h g cs T f A C).trans A) C).trans (h g cs T f A C)
def Lq(b:Nat)(s w mp tv ss)(h:DU w b mp tv ss)(c p:Nat)(J:c≠0)(C:Calls prog 80 #[.string s] w fun e w'=>e=.returned (.tuple #[.pointer none,.int .i64 c,.int .i64 p])/\an w w'):
  Calls prog 83 #[.pointer (some ⟨b,0,none⟩),.string s] w fun e w'=>e=.returned (.int .i64 c)/\an w w':=by
 have Q:((c:Int)==0)=false:=by rw [b6];omega
 have D:=ai C;go_enter func83,ntmps83;go_wp2_with fail;refine D.u.mono ?_;rintro e w1 ⟨rfl,I⟩;have A:=ai I;go_wp2;go_ret;exact ⟨rfl,A.u⟩
def YQ(b:Nat)(X:Nat->af->Prop)(w:af)(e:Ending)(w':af):Prop:=∃bm,e=.returned (.int .i64 0)/\DU w' b (.pointer (some ⟨bm,5,none⟩)) (.slice none 0 0) []/\X bm w'/\bG (fun k=>k=b) w w'
def P5(b s w mp tv ss)(h:DU w b mp tv ss)(X)(Q:∀bm w w',X bm w->KD w w'->X bm w')(C:Calls prog 80 #[.string s] w fun e w'=>∃bm,e=.returned (.tuple #[.pointer (some ⟨bm,5,none⟩),.int .i64 0,.int .i64 0])/\an w w'/\X bm w'):
  Calls prog 83 #[.pointer (some ⟨b,0,none⟩),.string s] w (YQ b X w):=by
 have I:=ai C;have H:=ai h;have V:=ai Q;obtain ⟨ta,tc,rfl⟩:=ax h.row;clear C h Q;go_enter func83,ntmps83;go_wp2_with fail;refine I.u.mono ?_;rintro e w1 ⟨bm,rfl,D,R⟩;have A:=(H.u.below D).blk;obtain ⟨ab,ac⟩:=hY A;have ad:=A.fz;have J:=ai A;have U:=ai D;have Y:=ai R;clear D I A R;go_wp2;go_ret;have k1:=J.u.set 0 (.pointer (some ⟨bm,5,none⟩));have Z:=k1.set 1 (.slice none 0 0);exact ⟨bm,rfl,⟨Z,bL,fun g n c e=>by simp at e,ar⟩,V.u bm w1 _ Y.u ((KD.set J.u Do 0 _).trans (KD.set k1 Do 1 _)),((bG.of_below U.u).set (show (fun k=>k=b) (⟨b,0,none⟩:Addr).block from rfl) _).set (show (fun k=>k=b) (⟨b,1,none⟩:Addr).block from rfl) _⟩
def P7(s w)(c p:Nat)(J:c≠0)(C:Calls prog 80 #[.string s] w fun e w'=>e=.returned (.tuple #[.pointer none,.int .i64 c,.int .i64 p])/\an w w'):
  Calls prog 82 #[.string s] w fun e w'=>e=.returned (.tuple #[.pointer none,.int .i64 c])/\an w w':=by
 have Q:((c:Int)==0)=false:=by rw [b6];omega
 have R:((c:Int) != 0)=true:=hP.2 aj;have D:=ai C;go_enter func82,ntmps82;go_wp2_with fail;refine D.u.mono ?_;rintro e w1 ⟨rfl,I⟩;have A:=ai I;go_wp2;go_ret2;exact ⟨rfl,A.u⟩
def YR(X:Nat->af->Prop)(w:af)(e:Ending)(w':af):Prop:=∃bm b,e=.returned (.tuple #[.pointer (some ⟨b,0,none⟩),.int .i64 0])/\DU w' b (.pointer (some ⟨bm,5,none⟩)) (.slice none 0 0) []/\X bm w'/\an w w'/\w.heap.size<=b
def Vu(s w X)(R:∀bm w w',X bm w->KD w w'->X bm w')(C:Calls prog 80 #[.string s] w fun e w'=>∃bm,e=.returned (.tuple #[.pointer (some ⟨bm,5,none⟩),.int .i64 0,.int .i64 0])/\an w w'/\X bm w'):
  Calls prog 82 #[.string s] w (YR X w):=by
 have I:=ai C;have J:=ai R;go_enter func82,ntmps82;go_wp2_with fail;refine I.u.mono ?_;rintro e w1 ⟨bm,rfl,A,U⟩;have D:=ai A;have Q:=ai U;have l1:=A.size;go_wp2;go_ret2;have k1:=aE.new w1 #[.pointer (some ⟨bm,5,none⟩),.slice none 0 0] 262;exact ⟨bm,w1.heap.size,rfl,⟨k1,bL,fun g n c e=>by simp at e,ar⟩,J.u bm w1 _ Q.u (KD.below ((az _ w1).alloc aD _)),D.u.alloc l1 _,l1⟩
end
variable {base b i d a f n F m j g q p c bm:Nat} {w w':af} {s:ae} {tv kv rv pv:ag} {rl:List RV} {pl:List PV} {aA aU:Prop} {ts:List Ty} {t:Ty} {r:Rl} {α:Type} {gs:List Tu} {ss:List ae}
def QG(kl:List (ae×Nat))(rl:List RV)(pl:List PV)(ts:List Ty):Prop:=
 ∃(h:Nat->List Gr)(A:Nat->List Nat)(D:RV->Nat->Prop)(C:RV->Nat->Nat),nO rl pl h/\YV rl pl A/\vG kl rl=k8 (CF [] ts)/\(CF [] ts=none->kg kl rl pl h A=eT (gN ts) ts/\(eT (gN ts) ts=none->lg rl pl h A/\(∀x∈rl,GG rl pl h A x (D x) (C x))/\loopsR rl pl h A C rl 0 (-1)=k8 (eT (jr ts) ts)))
def QH(s:ae)(w:af)(e:Ending)(w':af):Prop:=an w w'/\(match eg (TT s) (PP s) with
 | .error (c,jj)=>c≠0/\e=.returned (.tuple #[.pointer none,.int .i64 c,.int .i64 (PP s jj)])
 | .ok (ts,m)=>match gt ts with
  |some (p,c)=>e=.returned (.tuple #[.pointer none,.int .i64 c,.int .i64 p])
  |none=>∃b kv rv pv kl rl pl l,e=.returned (.tuple #[.pointer (some ⟨b,5,none⟩),.int .i64 0,.int .i64 0])/\DM w' b kv rv pv kl rl pl l/\vH pl kl rl ts/\Gd s m/\(∃cs,aE w' b cs 252)/\∀x∈l,jC w.heap.size x)
def RM.dm{e kl l}(h:RM base w b s tv i d e a kv rv pv kl rl pl l)(h1:kl.length<=5)(h2:rl.length<=500)(A:pl.length<=500):DM w b kv rv pv kl rl pl l:=by
 obtain ⟨_,_,_,_,_,c5,c6,c7⟩:=h.rs.blk.eight;exact ⟨c5,c6,c7,hT h.kt,hT h.rt,⟨h.pt.fst,hT h.pt.row,h.pt.rep⟩,h1,h2,A⟩
def GL(s w)(hs:500<s.size):Calls prog 80 #[.string s] w fun e w'=>e=.returned (.tuple #[.pointer none,.int .i64 1,.int .i64 0])/\an w w':=by
 have A:(500:Int)<(s.size:Int):=aj;go_enter func80,ntmps80;go_wp2;go_ret3;exact ⟨rfl,az _ _⟩
def Lz(s w)(hs:s.size<=500)(a3:∀kl rl pl ts m,eg (TT s) (PP s)=.ok (ts,m)->Gd s m->vH pl kl rl ts->QG kl rl pl ts):Calls prog 80 #[.string s] w (QH s w):=by
 have bu:¬((500:Int)<(s.size:Int)):=aj;have aS:=ai a3;have C:=ai (Co s w hs);have aY:=ai hs;go_enter func80,ntmps80;go_wp2_with fail;refine (ak C).mono ?_;rintro e w1 ⟨v,rfl,ag,az⟩;obtain ⟨ta,tc,rfl⟩:=ax az;have a6:=ag.alloc ag.size (.cells #[.slice ta (iV s).length tc,.int .i64 0,.int .i64 0,.int .i64 0,.int .i64 0,.slice none 0 0,.slice none 0 0,.slice none 0 0] 252);have bi:=ag.size;have a5:=ai (show RM w.heap.size (w1.alloc (.cells #[.slice ta (iV s).length tc,.int .i64 0,.int .i64 0,.int .i64 0,.int .i64 0,.slice none 0 0,.slice none 0 0,.slice none 0 0] 252)) w1.heap.size s (.slice ta (iV s).length tc) 0 0 0 0 (.slice none 0 0) (.slice none 0 0) (.slice none 0 0) [] [] [] [] from
  ⟨⟨aE.new w1 _ _,hT (az.alloc _),fun j bs=>aj,⟨⟨_,_,_,rfl⟩,⟨_,_,_,rfl⟩,⟨_,_,_,rfl⟩⟩,aY.u⟩,⟨rfl,bL,ar⟩,bL,bL,ar⟩)
 have aH:=ai a6;have aI:=ai (Gl w.heap.size w1.heap.size s _ _ _ _ [] _ a5.u bi aM);go_wp2_with fail;refine aI.u.mono ?_;rintro e bn ⟨rfl,ba,kv,rv,pv,kl,rl,pl,l,j,av,bp,ah,ad⟩;have ab:=ai (aH.u.trans ba);have aC:=ab.u.size;obtain ⟨bw,bx,bz,r3,bA,bB,bC,bD⟩:=ah.rs.blk.eight;have J:=ai ah;have bt:=ah.rs.lt;generalize bq:w1.heap.size=b at*
 cases Y:eg (TT s) (PP s) with
 |error er=>
  obtain ⟨c,bv⟩:=er;rw [Y] at ad;obtain ⟨hc,rfl,rfl⟩:=ad;have bb:¬((av:Int)=0):=aj;have br:((av:Int) != 0)=true:=hP.2 bb;have A:=ai Y;go_wp2
  go_quiet (fail)
  go_wp2;go_ret3;exact ⟨below_drewN ab.u _,by rw [A.u];exact ⟨aj,rfl⟩⟩
 |ok y=>
  obtain ⟨ts,m⟩:=y;rw [Y] at ad;obtain ⟨rfl,rfl,h1,h2,a7,aw⟩:=ad;obtain ⟨an,aB,a4,bl,a8,a9,bk,bf⟩:=aS.u kl rl pl ts _ Y J.u.rs.gd aw;have ap:=ai (J.u.dm h1 h2 a7);have aQ:=ai aw;have aN:=ai J.u.rs.gd;have aK:=ai J.u.rs.blk;have aL:=ai J.u.fh;have A:=ai Y;have au:=ai a8;have aO:=ai a9;have aV:=ai bf;have C:=ai (Gj b kv rv pv kl rl pl l bn ap.u);rw [bk] at C
  cases Z:CF [] ts with
  |some p=>
   rw [Z] at C;have Q:=ai Z;unfold k8 at C;simp only at C;have ay:(0:Int)<=(p:Int):=aj;go_wp2_with fail;refine (ak C).mono ?_;rintro e aG ⟨rfl,R⟩;have D:=ai (ab.u.trans (R.mono aC));go_wp2;go_ret3;exact ⟨D.u,by rw [A.u];simp only [gt,Q.u];rfl⟩
  |none=>
   rw [Z] at C;have Q:=ai Z;obtain ⟨be,bg⟩:=aV.u Z;have aW:=ai bg;have aR:=ai be;unfold k8 at C;simp only at C;go_wp2_with fail;refine (ak C).mono ?_;rintro e aG ⟨rfl,R⟩;have D:=ai (ab.u.trans (R.mono aC));have aD:=D.u.size;have al:=ai (ap.u.below R);have a0:=ai (aK.u.below R);have C:=ai (Gv b kv rv pv kl rl pl l an aB aG al.u au.u aO.u);rw [aR.u] at C
   cases hn:eT (gN ts) ts with
   |some p=>
    rw [hn] at C;have ac:=ai hn;unfold k8 at C;simp only at C;have ay:(0:Int)<=(p:Int):=aj;go_wp2_with fail;refine (ak C).mono ?_;rintro e w5 ⟨rfl,U⟩;have I:=ai (D.u.trans (U.mono aD));go_wp2;go_ret3;exact ⟨I.u,by rw [A.u];simp only [gt,Q.u,ac.u];rfl⟩
   |none=>
    rw [hn] at C;have ac:=ai hn;obtain ⟨bh,bj,bc⟩:=aW.u hn;have aX:=ai bh;have aZ:=ai bj;have aP:=ai bc;unfold k8 at C;simp only at C;go_wp2_with fail;refine (ak C).mono ?_;rintro e w5 ⟨rfl,U⟩;have I:=ai (D.u.trans (U.mono aD));have aF:=I.u.size;have am:=ai (al.u.below U);have a1:=ai (a0.u.below U);have C:=ai (GJ b kv rv pv kl rl pl l an aB a4 bl w5 am.u au.u aX.u aZ.u);rw [aP.u] at C
    cases hl:eT (jr ts) ts with
    |some p=>
     rw [hl] at C;have af:=ai hl;unfold k8 at C;simp only at C;have ay:(0:Int)<=(p:Int):=aj;go_wp2_with fail;refine (ak C).mono ?_;rintro e bo ⟨rfl,V⟩;have ae:=ai (I.u.trans (V.mono aF));go_wp2;go_ret3;exact ⟨ae.u,by rw [A.u];simp only [gt,Q.u,ac.u,af.u];rfl⟩
    |none=>
     rw [hl] at C;have af:=ai hl;unfold k8 at C;simp only at C;go_wp2_with fail;refine (ak C).mono ?_;rintro e bo ⟨rfl,V⟩;have ae:=ai (I.u.trans (V.mono aF));have aJ:=ai (am.u.below V);have a2:=ai (a1.u.below V);go_wp2;go_ret3;exact ⟨ae.u,by rw [A.u];simp only [gt,Q.u,ac.u,af.u];exact ⟨b,kv,rv,pv,kl,rl,pl,l,rfl,aJ.u,aQ.u,aN.u,⟨_,a2.u⟩,aL.u⟩⟩
def QI (h:aA:=by
 rcases bi.1 hx with rfl|hx
 ·exact hn
 exact fun hm=>h1 x hx Jj):aA:=h
def QJ (h:aA:=by
 cases e:eqs g.rel em
 ·rfl
 rw [(bo _ _).1 e,Jn] at h2;cases h2):aA:=h
structure eP(ts:List Ty):Prop where
 ty:ts.Pairwise fun t u=>t.name≠u.name
 rl:∀t∈ts,t.rels.Pairwise fun r q=>r.name≠q.name
def Dz:∀(l:List (ae×Nat)) (ah:List ae),Ud ah l=none->(∀x∈l,x.1∉ah)/\l.Pairwise fun x y=>x.1≠y.1
 | [],ah,_=>⟨ar,ar⟩
 |(n,p)::l,ah,h=>by
  rw [Ud] at h
  cases A:(ah.any fun m=>eqs m n)
  ·rw [A] at h;simp only [bH,aV] at h;obtain ⟨h1,h2⟩:=Dz l _ h;have hn:n∉ah:=fun hm=>by
    rw [jk] at A;exact A n hm ((bo _ _).2 rfl)
   refine ⟨fun x hx=> ?_,?_⟩
   ·exact QI
   rw [k9];exact ⟨fun y C e=>h1 y C (by simp at e;simp [e]),h2⟩
  rw [A] at h;simp at h
def nR:∀(l:List Ty)(ah:List ae),CF ah l=none->(∀t∈l,t.name∉ah)/\eP l
 | [],ah,_=>⟨ar,ar,ar⟩
 |t::l,ah,h=>by
  rw [CF] at h
  cases A:(ah.any fun m=>eqs m t.name)
  ·rw [A] at h;simp only [bH,aV] at h;have hn:t.name∉ah:=fun hm=>by
    rw [jk] at A;exact A _ hm ((bo _ _).2 rfl)
   unfold twR at h
   cases C:Ud [] (t.rels.map fun r=>(r.name,r.place)) with
   |some p=>rw [C] at h;simp at h
   |none=>
    rw [C] at h;simp only at h;obtain ⟨h1,h2⟩:=nR l _ h;obtain ⟨_,D⟩:=Dz _ _ C;rw [rZ] at D;refine ⟨fun x hx=> ?_,?_,?_⟩
    ·exact QI
    ·rw [k9];exact ⟨fun y I e=>h1 y I (by rw [<-e];simp),h2.ty⟩
    intro x hx
    rcases bi.1 hx with rfl|hx
    ·exact D
    exact h2.rl x hx
  rw [A] at h;simp at h
def c8(h:eP ts)(I:t∈ts):bW ts t.name=some t:=by
 unfold bW;obtain ⟨A,B,rfl⟩:=uP I;have C:=h.ty;rw [List.pairwise_append,k9] at C;rw [List.find?_append];have:A.find? (fun u=>eqs u.name t.name)=none:=by
  rw [List.find?_eq_none];intro u J D;exact C.2.2 u J t ar ((bo _ _).1 D)
 rw [this];simp [(bo t.name t.name).2 rfl]
def pR(h:t.rels.Pairwise fun r q=>r.name≠q.name)(D:r∈t.rels):bT t r.name=some r:=by
 unfold bT;obtain ⟨A,B,e⟩:=uP D;rw [e] at h ⊢;rw [List.pairwise_append,k9] at h;rw [List.find?_append];have:A.find? (fun u=>eqs u.name r.name)=none:=by
  rw [List.find?_eq_none];intro u I C;exact h.2.2 u I r ar ((bo _ _).1 C)
 rw [this];simp [(bo r.name r.name).2 rfl]
def cb{k}(h:bW ts k=some t):t∈ts/\t.name=k:=⟨gj h,(bo _ _).1 (List.find?_some (p:=fun t:Ty=>eqs t.name k) h)⟩
def cH{n}(h:bT t n=some r):r∈t.rels/\r.name=n:=⟨gj h,(bo _ _).1 (List.find?_some (p:=fun r:Rl=>eqs r.name n) h)⟩
def vR{pl}(k n):∀(rl:List RV) (ps:List (ae×Rl)) (i:Nat),cU pl rl ps->(aY k n rl i= -1/\∀p∈ps,¬(p.1=k/\p.2.name=n))\/∃j p,aY k n rl i=((i+j:Nat):Int)/\ps[j]? =some p/\p.1=k/\p.2.name=n
 | [],[],i,_=> .inl ⟨rfl,ar⟩
 |x::rl,p::ps,i,h=>by
  obtain ⟨⟨h1,h2,_,_⟩,I⟩:=h;rw [aY]
  by_cases A:(eqs x.kd k&&eqs x.nm n)=true
  ·rw [if_pos A];rw [bM,bo,bo] at A;exact .inr ⟨0,p,ar,ar,h1▸A.1,h2▸A.2⟩
  rw [if_neg A]
  rcases vR k n rl ps (i+1) I with ⟨e,R⟩|⟨j,q,e,J,Q⟩
  ·refine .inl ⟨e,fun q C=> ?_⟩
   rcases bi.1 C with rfl|C
   ·rintro ⟨e1,D⟩;exact A (by rw [bM,bo,bo,h1,h2];exact ⟨e1,D⟩)
   exact R q C
  exact .inr ⟨j+1,q,by rw [e];omega,by simpa using J,Q⟩
 | [],_::_,_,h=>h.elim
 |_::_,[],_,h=>h.elim
def dM{p:ae×Rl}:p∈bk ts↔∃t∈ts,t.name=p.1/\p.2∈t.rels:=by
 unfold bk;rw [bS]
 constructor
 ·rintro ⟨t,A,C⟩;obtain ⟨r,h,rfl⟩:=aN.1 C;exact ⟨t,A,rfl,h⟩
 rintro ⟨t,A,e,h⟩;exact ⟨t,A,aN.2 ⟨p.2,h,by rw [e]⟩⟩
def c9(A:eP ts)(J:cU pl rl (bk ts))(k n):
  (aY k n rl 0= -1/\∀t,bW ts k=some t->bT t n=none)\/∃(j:Nat)(t:Ty)(r:Rl),aY k n rl 0=j/\bW ts k=some t/\bT t n=some r/\(bk ts)[j]? =some (k,r):=by
 rcases vR k n rl _ 0 J with ⟨e,U⟩|⟨j,p,e,C,h1,h2⟩
 ·refine .inl ⟨e,fun t h=> ?_⟩
  cases V:bT t n with
  |none=>rfl
  |some r=>
   obtain ⟨R,Q⟩:=cb h;obtain ⟨Y,hn⟩:=cH V;exact absurd ⟨rfl,hn⟩ (U (k,r) (dM.2 ⟨t,R,Q,Y⟩))
 ·obtain ⟨t,h,D,I⟩:=dM.1 (bA C);refine .inr ⟨j,t,p.2,by simpa using e,?_,?_,?_⟩
  ·rw [<-h1,<-D];exact c8 A h
  ·rw [<-h2];exact pR (A.rl t h) I
  rw [C,<-h1]
def LA(x):((ts.map fun t=>(t.name,t.place)).any fun k=>eqs k.1 x)=(bW ts x).isSome:=by
 unfold bW;exact Pd
def kh(g:Gr):Prop:=(g.reach=0/\g.rel=em)\/g.reach=1\/(g.reach=2/\dl g.rel=true)
def Jn:dl em=false:=by decide
def yZ:dl (sg 42)=false:=by decide
def si{g}(h:g.reach=2):b8 g=g.rel:=by unfold b8;rw [if_neg aj]
def DA(J:eP ts)(Q:cU pl rl (bk ts))(g)(R:kh g):oG (ts.map fun t=>(t.name,t.place)) rl g=l7 ts g:=by
 unfold oG l7;rw [LA]
 cases C:bW ts g.ty with
 |none=>simp
 |some t=>
  simp only [Option.isSome_some,Bool.true_eq_false,aV]
  rcases R with ⟨h1,h2⟩|h1|⟨h1,h2⟩
  ·have e:b8 g=em:=by unfold b8;rw [if_neg aj,h2]
   rw [e,(bo em em).2 rfl,h1];simp
  ·have e:b8 g=sg 42:=by unfold b8;rw [if_pos h1]
   rw [e,(bo (sg 42) (sg 42)).2 rfl,h1];simp
  rw [si h1,h1];have e1:eqs g.rel em=false:=by
   exact QJ
  have D:eqs g.rel (sg 42)=false:=by
   cases e:eqs g.rel (sg 42)
   ·rfl
   rw [(bo _ _).1 e,yZ] at h2;cases h2
  rw [e1,D]
  rcases c9 J Q g.ty g.rel with ⟨e,U⟩|⟨j,V,r,e,A,I,_⟩
  ·rw [e,U t C];simp
  rw [C] at A;simp only [aL] at A;subst A;rw [e,I];have:¬((j:Int)<0):=aj;simp [this]
def GM (h:aA:=by
 unfold ez;rw [hx,dS];exact sj _ _ (dW pl F _ _ htr)):aA:=h
def vS{α β:Type}{f g:α->List β}:∀{l:List α},(∀a∈l,f a=g a)->l.flatMap f=l.flatMap g
 | [],_=>rfl
 |a::l,h=>by
  rw [cq,cq,h a ar,vS (fun b A=>h b (by simp [A]))]
def Tr.kids{x p}(h:Tr pl (f+1) n x)(Q:pl[n]? =some p):∀m∈p.ps,∃y,Tr pl f m y:=by
 obtain ⟨V,C,h⟩:=h;rw [Q] at C;simp only [aL] at C;subst C;intro m hm
 rcases h with ⟨h1,hn,h2⟩|⟨h1,h0,hn,h2⟩|⟨h1,h0,hn,h2⟩|⟨h1,h0,R,ns,x0,rs,h3,h4,h5,D,I,J⟩|⟨h1,h0,U,R,ns,x0,rs,h3,h4,h5,D,I,J⟩
 ·rw [hn.1] at hm;simp at hm
 ·rw [hn.1] at hm;simp at hm
 ·rw [hn.1] at hm;simp at hm
 ·exact AO
 exact AO
def vT(pl):∀(f n:Nat)(x:Ex),Tr pl f n x->aF pl (f+1) n=aF pl f n
 |0,_,_,h=>h.elim
 |f+1,n,x,h=>by
  obtain ⟨p,A,_⟩:=id h;have C:=h.kids A;rw [aF,aF,A];simp only
  split
  ·exact vS (fun m D=>by obtain ⟨y,I⟩:=C m D;exact vT pl f m y I)
  rfl
def ki(pl){x}(h:Tr pl f n x)(hF:f<=F):aF pl F n=aF pl f n:=by
 obtain ⟨d,rfl⟩:=Nat.exists_eq_add_of_le hF;clear hF
 induction d with
 |zero=>rfl
 |succ d ih=>rw [<-ih];exact vT pl _ _ _ (Tr.le pl (Nat.le_add_right f d) h)
def cV(pl:List PV)(F:Nat):List RV->List (ae×Rl)->Prop
 | [],[]=>True
 |x::xs,p::ps=>(x.kd=p.1/\x.nm=p.2.name/\x.pl=p.2.place/\Tr pl F x.ex p.2.body)/\cV pl F xs ps
 |_,_=>False
def cV.le{pl F G}(h:F<=G):∀(xs:List RV) (ps:List (ae×Rl)),cV pl F xs ps->cV pl G xs ps
 | [],[],_=>trivial
 |x::xs,p::ps,k=>⟨⟨k.1.1,k.1.2.1,k.1.2.2.1,Tr.le pl h k.1.2.2.2⟩,cV.le h xs ps k.2⟩
 | [],_::_,k=>k.elim
 |_::_,[],k=>k.elim
def cU.fuel{pl:List PV}:∀(xs:List RV) (ps:List (ae×Rl)),cU pl xs ps->∃F,cV pl F xs ps
 | [],[],_=>⟨0,trivial⟩
 |x::xs,p::ps,h=>by
  obtain ⟨F,hF⟩:=cU.fuel xs ps h.2;obtain ⟨⟨h1,h2,A,f,C⟩,_⟩:=h;exact ⟨F+f,⟨h1,h2,A,Tr.le pl aj C⟩,cV.le aj xs ps hF⟩
 | [],_::_,h=>h.elim
 |_::_,[],h=>h.elim
def cV.get{pl:List PV}{F:Nat}:∀(xs:List RV) (ps:List (ae×Rl)) (j:Nat) (p:ae×Rl),cV pl F xs ps->ps[j]? =some p->∃x,xs[j]? =some x/\x.kd=p.1/\x.nm=p.2.name/\x.pl=p.2.place/\Tr pl F x.ex p.2.body
 | [],[],j,p,_,h=>by simp at h
 |x::xs,q::ps,0,p,k,h=>by
  simp only [List.getElem?_cons_zero,aL] at h;subst h;exact ⟨x,rfl,k.1⟩
 |x::xs,q::ps,j+1,p,k,h=>by
  rw [Uzb] at h;obtain ⟨y,C,A⟩:=cV.get xs ps j p k.2 h;exact ⟨y,by simpa using C,A⟩
 | [],_::_,_,_,k,_=>k.elim
 |_::_,[],_,_,k,_=>k.elim
def ez(rl:List RV)(pl:List PV)(h:Nat->List Nat)(r:Nat):List Gr:=match rl[r]? with
 |some x=>(h x.ex).flatMap (jv pl)
 |none=>[]
def oq{e}(h:Tr pl 1 n e):jv pl n=eY e:=by
 obtain ⟨p,C,h⟩:=h;unfold jv;rw [C]
 rcases h with ⟨h1,hn,rfl⟩|⟨h1,h0,hn,rfl⟩|⟨h1,h0,hn,rfl⟩|⟨_,_,_,_,_,_,_,A,_⟩|⟨_,_,_,_,_,_,_,_,A,_⟩
 ·simp [eY]
 ·simp [eY,h0]
 ·simp [eY,h0]
 ·exact A.elim
 exact A.elim
def sj{pl:List PV}:∀(ns:List Nat)(A:List Ex),cG (Tr pl 1) ns A->ns.flatMap (jv pl)=A.flatMap eY
 | [],[],_=>rfl
 |n::ns,e::A,h=>by rw [cq,cq,oq h.1,sj ns A h.2]
 | [],_::_,h=>h.elim
 |_::_,[],h=>h.elim
def dS:∀(x:Ex),b9 x=(aJ x).flatMap eY
 |⟨n,some x,some y⟩=>by
  have h1:=dS x;have h2:=dS y;unfold b9 at*;simp only [aC,aJ,cT,cq,mq,eh,h1,h2];simp [eY]
 |⟨n,none,r⟩=>by simp [b9,aC,aJ]
 |⟨n,some x,none⟩=>by simp [b9,aC,aJ]
def mC{β:Type}(f:Ex->Option β)(h:∀e,e.l.isSome=true->f e=none):∀(x:Ex),(aC x).findSome? f=(aJ x).findSome? f
 |⟨n,some x,some y⟩=>by
  have h1:=mC f h x;have h2:=mC f h y;simp only [aC,aJ,rN,h1,h2,List.findSome?_cons,List.findSome?_nil];rw [h ⟨n,some x,some y⟩ rfl];simp
 |⟨n,none,r⟩=>by simp [aC,aJ]
 |⟨n,some x,none⟩=>by simp [aC,aJ]
def vU(ts:List Ty):Prop:=∀t∈ts,∀r∈t.rels,∀e∈aJ r.body,∀g∈eY e,kh g
def DB(J:eP ts)(Q:cU pl rl (bk ts))(y g)(R:kh g):
  (g8 rl y g=[]/\iE ts y g=none)\/∃(j:Nat)(u:Ty)(r:Rl),g8 rl y g=[j]/\iE ts y g=some u/\bT u y=some r/\(bk ts)[j]? =some (u.name,r):=by
 unfold g8 iE
 rcases R with ⟨h1,h2⟩|h1|⟨h1,h2⟩
 ·have e:b8 g=em:=by unfold b8;rw [if_neg aj,h2]
  rw [e,(bo em em).2 rfl,if_pos h1]
  rcases c9 J Q g.ty y with ⟨e1,U⟩|⟨j,t,r,e1,C,D,I⟩
  ·refine .inl ⟨by rw [e1];simp,?_⟩
   cases V:bW ts g.ty with
   |none=>rfl
   |some u=>simp [U u V]
  refine .inr ⟨j,t,r,by rw [e1];simp,?_,D,?_⟩
  ·rw [C];simp [D]
  rw [(cb C).2];exact I
 ·have e:b8 g=sg 42:=by unfold b8;rw [if_pos h1]
  have A:¬(g.reach=0):=aj;exact .inl ⟨by rw [e];simp [show eqs (sg 42) em=false from by decide],if_neg A⟩
 ·have A:¬(g.reach=0):=by omega
  have e1:eqs g.rel em=false:=by
   exact QJ
  exact .inl ⟨by rw [si h1];simp [e1],if_neg A⟩
def vV{pl rl ts}(C:eP ts)(D:cU pl rl (bk ts))(y):∀(G:List Gr),(∀g∈G,kh g)->(fj rl y G=[]↔(G.filterMap (iE ts y)).length=0)
 | [],_=>by simp [fj]
 |g::G,h=>by
  have J:=vV C D y G (fun g I=>h g (by simp [I]));unfold fj at*;rw [cq,List.filterMap_cons]
  rcases DB C D y g (h g ar) with ⟨e1,A⟩|⟨j,u,r,e1,A,_⟩
  ·rw [e1,A,List.nil_append];exact J
  rw [e1,A];simp
def QK(C:eP ts)(D:cU pl rl (bk ts))(hF:cV pl F rl (bk ts))(R:vU ts)(t)(I:t∈ts)(n e)(h:Tr pl 1 n e)(Z:∀g∈eY e,kh g):
  qB (ts.map fun t=>(t.name,t.place)) rl pl (ez rl pl (aF pl F)) t.name n=fV ts t e:=by
 obtain ⟨p,af,h⟩:=h;unfold qB;rw [af];simp only;unfold Gs
 rcases h with ⟨h1,hn,rfl⟩|⟨h1,h0,hn,rfl⟩|⟨h1,h0,hn,rfl⟩|⟨_,_,_,_,_,_,_,A,_⟩|⟨_,_,_,_,_,_,_,_,A,_⟩
 ·have key:∀(l:List Gr),(∀g∈l,kh g)->l.findSome? (oG (ts.map fun t=>(t.name,t.place)) rl)=l.findSome? (l7 ts):=by
   intro l hl
   induction l with
   |nil=>rfl
   |cons a l ih=>rw [gm,gm,DA C D a (hl a ar),ih (fun g R=>hl g (by simp [R]))]
  rw [key p.gs (by simpa [eY] using Z)];simp only [fV,if_true,oO,h1]
  cases p.gs.findSome? (l7 ts)<;>simp
 ·simp only [h0,List.findSome?_nil,h1,if_true,fV,Nat.reduceEqDiff,aV]
  rcases c9 C D t.name p.nr with ⟨e1,U⟩|⟨j,ah,r,e1,A,J,_⟩
  ·rw [e1,U t (c8 C I)];simp
  rw [c8 C I] at A;simp only [aL] at A;subst A;have:¬((j:Int)<0):=aj;rw [e1,J];simp [this]
 ·simp only [h0,List.findSome?_nil,h1,Nat.reduceEqDiff,aV,if_true,fV,Fq]
  rcases c9 C D t.name p.nb with ⟨e1,U⟩|⟨j,ah,r,e1,A,J,V⟩
  ·rw [e1,U t (c8 C I)];simp
  rw [c8 C I] at A;simp only [aL] at A;subst A;have ae:¬((j:Int)<0):=aj;obtain ⟨x,hx,ai,_,_,htr⟩:=cV.get rl _ j _ hF V;have Y:ez rl pl (aF pl F) j=b9 r.body:=by
   exact GM
  have ag:=(cH J).1;have ha:∀g∈b9 r.body,kh g:=by
   rw [dS];intro g ac;obtain ⟨e',ab,ad⟩:=bS.1 ac;exact R t I r ag e' ab g ad
  rw [e1,J,if_neg ae,Int.toNat_natCast,Y];simp only
  by_cases Q:fj rl p.nr (b9 r.body)=[]
  ·rw [if_pos Q,if_pos ((vV C D p.nr _ ha).1 Q)]
  rw [if_neg Q,if_neg (fun h=>Q ((vV C D p.nr _ ha).2 h))]
 ·exact A.elim
 ·exact A.elim
def vW{pl rl ts F}(C:eP ts)(D:cU pl rl (bk ts))(hF:cV pl F rl (bk ts))(I:vU ts)(t)(J:t∈ts):∀(ns:List Nat)(A:List Ex),cG (Tr pl 1) ns A->(∀e∈A,∀g∈eY e,kh g)->
  ns.findSome? (qB (ts.map fun t=>(t.name,t.place)) rl pl (ez rl pl (aF pl F)) t.name)=A.findSome? (fV ts t)
 | [],[],_,_=>rfl
 |n::ns,e::A,h,he=>by
  rw [gm,gm,QK C D hF I t J n e h.1 (he e ar),vW C D hF I t J ns A h.2 (fun e' Q=>he e' (by simp [Q]))]
 | [],_::_,h,_=>h.elim
 |_::_,[],h,_=>h.elim
def GN(ts t e)(h:e.l.isSome=true):fV ts t e=none:=by
 unfold fV
 cases hl:e.l with
 |none=>rw [hl] at h;simp at h
 |some x=>rfl
def vX(N)(g:ae×Rl->Option Nat):∀(ts:List Ty),(∀t∈ts,∀r∈t.rels,g (t.name,r)=N t r)->(bk ts).findSome? g=eT N ts
 | [],_=>rfl
 |t::ts,h=>by
  have D:=vX N g ts (fun t C=>h t (by simp [C]));have e:bk (t::ts)=(t.rels.map fun r=>(t.name,r))++bk ts:=by simp [bk]
  have key:∀(l:List Rl),(∀r∈l,r∈t.rels)->(l.map fun r=>(t.name,r)).findSome? g=l.findSome? (N t):=by
   intro l hl
   induction l with
   |nil=>rfl
   |cons a l ihl=>rw [cA,gm,gm,h t ar a (hl a ar),ihl (fun r A=>hl r (by simp [A]))]
  rw [e,rN,D,key t.rels (fun r A=>A)];unfold eT;rw [gm]
  cases t.rels.findSome? (N t)<;>rfl
def tf(C:eP ts)(Y:cU pl rl (bk ts))(hF:cV pl F rl (bk ts))(I:vU ts):
  kg (ts.map fun t=>(t.name,t.place)) rl pl (ez rl pl (aF pl F)) (aF pl F)=eT (gN ts) ts:=by
 have h1:∀(xs:List RV) (ps:List (ae×Rl)),(∀p∈ps,p∈bk ts)->cV pl F xs ps->(xs.findSome? fun x=>(aF pl F x.ex).findSome? (qB (ts.map fun t=>(t.name,t.place)) rl pl (ez rl pl (aF pl F)) x.kd))=ps.findSome? fun p=>match bW ts p.1 with
   |some t=>gN ts t p.2
   |none=>none:=by
  intro xs
  induction xs with
  |nil=>intro ps _ h;cases ps with
   |nil=>rfl
   |cons p ps=>exact h.elim
  |cons x xs ih=>intro ps J h;cases ps with
   |nil=>exact h.elim
   |cons p ps=>
    obtain ⟨⟨h1,_,_,Q⟩,R⟩:=h;obtain ⟨t,A,D,U⟩:=dM.1 (J p ar);have e:(aF pl F x.ex).findSome? (qB (ts.map fun t=>(t.name,t.place)) rl pl (ez rl pl (aF pl F)) x.kd)=gN ts t p.2:=by
     rw [h1,<-D,vW C Y hF I t A _ _ (dW pl F _ _ Q) (fun e V=>I t A p.2 U e V)];unfold gN;rw [mC _ (GN ts t)]
    rw [gm,gm,e,ih ps (fun q ab=>J q (by simp [ab])) R,<-D,c8 C A]
 unfold kg;rw [h1 rl (bk ts) (fun p Z=>Z) hF];exact vX (gN ts) _ ts (fun t A r ac=>by simp only [c8 C A])
def XH (h:aA:=by
 split at h
 ·split at h
  ·split at h
   ·simp at h
   rename_i y I D
   split at h
   ·simp only [dL,Prod.mk.injEq] at h;rw [<-h.1];exact hp _ _ _ D
   simp at h
  simp at h
 unfold jl at h
 split at h
 ·simp at h
 split at h
 ·split at h
  ·simp at h
  exact QL
 exact QL):aA:=h
def QM (h:aA:=by
 rw [List.nil_append] at e;subst e;exact ha.sorted (fun i j A C=>XI s j i A (fun k D=>hg k aj))):aA:=h
def QO (h:aA:=by
 simp only [fU,aJ,aQ] at he
 rcases he with he|he
 ·exact ha e he
 exact hp _ _ _ hz e he):aA:=h
def QP (h:aA:=by
 rcases aQ.1 hg with hg|hg
 ·exact ha g hg
 rw [aR] at hg;rw [hg];exact h0):aA:=h
def QQ (h:aA:=by
 simp only [dL,Prod.mk.injEq] at h;obtain ⟨rfl,rfl⟩:=h;exact fun r A=> .inl A):aA:=h
def QS (h:aA:=by
 split at h
 ·simp only [dL,Prod.mk.injEq] at h;rw [<-h.1];exact h1
 simp at h):aA:=h
def QL (h:aA:=by
 simp only [dL,Prod.mk.injEq] at h;rw [<-h.1];intro e A g C;simp only [aJ,aR] at A;subst A;simp [eY] at C):aA:=h
def VC(s i)(h:0<(TT s i).size):PP s i<PP s (i+1):=by
 have e:PP s (i+1)=skip (bJ s) (K s (i+1)):=rfl;have h1:=IC (bJ s) (K s (i+1));have A:K s (i+1)=PP s i+(TT s i).size:=rfl;rw [e];omega
def XI(s):∀(j i:Nat),i<j->Gd s j->PP s i<PP s j
 |0,i,h,_=>aj
 |j+1,i,h,hg=>by
  have h1:=VC s j (hg j aj)
  by_cases e:i=j
  ·subst e;exact h1
  have:=XI s j i aj (fun k A=>hg k aj);omega
def xC(h:eg (TT s) (PP s)=.ok (ts,m))(hg:Gd s m):(gG ts).Pairwise (· < ·):=by
 obtain ⟨new,e,_,ha⟩:=pQ (TT s) (PP s) 512 [] 0 ts m h;exact QM
section
variable (T:Nat->ae)(P:Nat->Nat)
def LB(i:Nat)(g:Gr)(j:Nat)(h:dY T P i=.ok (g,j)):kh g:=by
 unfold dY at h
 split at h
 ·simp at h
 split at h
 ·simp only [dL,Prod.mk.injEq] at h;rw [<-h.1];exact .inr (.inl rfl)
 split at h
 ·split at h
  ·simp at h
  rename_i u m hn;simp only [dL,Prod.mk.injEq] at h;rw [<-h.1];refine .inr (.inr ⟨rfl,?_⟩);unfold dh at hn
  split at hn
  ·rename_i A;exact A
  simp at hn
 simp only [dL,Prod.mk.injEq] at h;rw [<-h.1];exact .inl ⟨rfl,rfl⟩
def DC:∀f acc i gs j,dZ T P f acc i=.ok (gs,j)->(∀g∈acc,kh g)->∀g∈gs,kh g
 |0,acc,i,gs,j,h,_=>by simp [dZ] at h
 |f+1,acc,i,gs,j,h,ha=>by
  unfold dZ at h
  split at h
  ·simp at h
  rename_i g0 A hg;have h0:=LB T P _ _ _ hg;have h1:∀g∈acc++[g0],kh g:=fun g hg=>by
   exact QP
  split at h
  ·exact DC f _ _ _ _ h h1
  exact QS
def GR(r:Nat->eI Ex):Prop:=∀i x j,r i=.ok (x,j)->∀e∈aJ x,∀g∈eY e,kh g
def DD(l:List ae)(part:Nat->eI Ex)(hp:GR part):∀f y i x j,joinL T P l part f y i=.ok (x,j)->(∀e∈aJ y,∀g∈eY e,kh g)->∀e∈aJ x,∀g∈eY e,kh g
 |0,y,i,x,j,h,_=>by simp [joinL] at h
 |f+1,y,i,x,j,h,ha=>by
  unfold joinL at h
  split at h
  ·split at h
   ·simp at h
   rename_i z A hz;refine DD l part hp f _ A x j h (fun e he=> ?_);exact QO
  simp only [dL,Prod.mk.injEq] at h;rw [<-h.1];exact ha
def qD(l:List ae)(part:Nat->eI Ex)(A:GR part):GR (fe T P l part):=by
 intro i x j h;unfold fe at h
 split at h
 ·simp at h
 rename_i y D C;exact DD T P l part A _ _ _ x j h (A _ _ _ C)
def DE(U:Bool)(Q:Nat->eI Ex)(hp:GR Q):GR (eR T P U Q):=by
 intro i x j h;unfold eR at h
 split at h
 ·unfold lw at h
  split at h
  ·simp at h
  rename_i gs V hl;simp only [dL,Prod.mk.injEq] at h;rw [<-h.1];intro e J g R;simp only [IB,aJ,aR] at J;subst J;exact DC T P _ _ _ _ _ hl ar g (by simpa [eY] using R)
 exact XH
def DF:∀n,GR (fp T P n)
 |0=>qD T P _ _ (qD T P _ _ (DE T P false _ (fun i x j h=>by simp at h)))
 |n+1=>qD T P _ _ (qD T P _ _ (DE T P true _ (DF n)))
def LC(i:Nat)(r:Rl)(j:Nat)(h:lW T P i=.ok (r,j)):dl r.name=true/\∃i0 A,fp T P 4 i0=.ok (r.body,A)/\A<=j:=by
 unfold lW at h
 split at h
 ·simp at h
 rename_i u I hn
 split at h
 ·simp at h
 rename_i x m D
 split at h
 ·simp only [dL,Prod.mk.injEq] at h;obtain ⟨rfl,rfl⟩:=h;refine ⟨?_,I,m,D,aj⟩;unfold bZ dh at hn;simp only
  cases C:dl (T i)
  ·rw [C] at hn;simp at hn
  rfl
 simp at h
def vY:∀f acc i rs m,dv T P f acc i=.ok (rs,m)->∀r∈rs,r∈acc\/(dl r.name=true/\∃i0 C,fp T P 4 i0=.ok (r.body,C)/\C<=m)
 |0,acc,i,rs,m,h=>by simp [dv] at h
 |f+1,acc,i,rs,m,h=>by
  unfold dv at h
  split at h
  ·exact QQ
  split at h
  ·simp at h
  split at h
  ·simp at h
  rename_i U j J;intro r I;have R:=o0 T P f _ _ _ _ h
  rcases vY f _ _ _ _ h r I with h1|h1
  ·rcases aQ.1 h1 with h1|h1
   ·exact .inl h1
   rw [aR] at h1;subst h1;obtain ⟨h2,i0,C,D,Q⟩:=LC T P _ _ _ J;exact .inr ⟨h2,i0,C,D,aj⟩
  exact .inr h1
def ti:∀f acc i ts m,cS T P f acc i=.ok (ts,m)->∀t∈ts,t∈acc\/∀r∈t.rels,dl r.name=true/\∃i0 D,fp T P 4 i0=.ok (r.body,D)/\D<=m
 |0,acc,i,ts,m,h=>by simp [cS] at h
 |f+1,acc,i,ts,m,h=>by
  unfold cS at h
  split at h
  ·exact QQ
  split at h
  ·simp at h
  split at h
  ·simp at h
  rename_i t0 j C;intro t Q;obtain ⟨_,_,Y,_⟩:=pQ T P f _ _ _ _ h
  rcases ti f _ _ _ _ h t Q with h1|h1
  ·rcases aQ.1 h1 with h1|h1
   ·exact .inl h1
   rw [aR] at h1;subst h1;refine .inr (fun r R=> ?_);rw [kf] at C
   split at C
   ·unfold mR at C
    split at C
    ·simp at C
    split at C
    ·simp at C
    rename_i rs Z U;simp only [dL,Prod.mk.injEq] at C;obtain ⟨rfl,rfl⟩:=C
    rcases vY T P _ _ _ _ _ U r R with I|⟨I,i0,D,J,V⟩
    ·simp at I
    exact ⟨I,i0,D,J,aj⟩
   simp at C
  exact .inr h1
end
def kj(h:eg (TT s) (PP s)=.ok (ts,m)):∀t∈ts,∀r∈t.rels,dl r.name=true/\∃i0 A,fp (TT s) (PP s) 4 i0=.ok (r.body,A)/\A<=m:=fun t C=>by
 rcases ti (TT s) (PP s) 512 [] 0 ts m h t C with h|h
 ·simp at h
 exact h
def vZ(h:eg (TT s) (PP s)=.ok (ts,m)):vU ts:=fun t C r A=>by
 obtain ⟨_,i0,D,h1,_⟩:=kj h t C r A;exact DF (TT s) (PP s) 4 _ _ _ h1
def pS:∀(x:Ex),(aJ x).length<=(aC x).length
 |⟨n,some x,some y⟩=>by
  have h1:=pS x;have h2:=pS y;simp only [aJ,aC,aZ,List.length_cons,List.length_nil];omega
 |⟨n,none,r⟩=>by simp [aJ,aC]
 |⟨n,some x,none⟩=>by simp [aJ,aC]
def cV.mem{pl:List PV}{F:Nat}:∀(xs:List RV) (ps:List (ae×Rl)),cV pl F xs ps->∀x∈xs,∃p∈ps,x.kd=p.1/\x.nm=p.2.name/\x.pl=p.2.place/\Tr pl F x.ex p.2.body
 | [],[],_,x,A=>by simp at A
 |y::xs,p::ps,h,x,A=>by
  rcases bi.1 A with rfl|A
  ·exact ⟨p,ar,h.1⟩
  obtain ⟨q,C,D⟩:=cV.mem xs ps h.2 x A;exact ⟨q,by simp [C],D⟩
 | [],_::_,h,_,_=>h.elim
 |_::_,[],h,_,_=>h.elim
def qE(ts:List Ty):Prop:=∀t∈ts,∀r∈t.rels,(aC r.body).length<=500/\(b9 r.body).length<=500
def sized(h:eg (TT s) (PP s)=.ok (ts,m))(A:Gd s m)(hs:s.size<=500):qE ts:=fun t D r C=>by
 have I:=A.le;have:=((iH (TT s) (PP s) ts m h).1 t D).1 r C;exact ⟨aP this.p aj,aP this.g aj⟩
section
variable {pl:List PV}{rl:List RV}{ts:List Ty}{F:Nat}
def jJ(hF:cV pl F rl (bk ts))(V:qE ts)(x)(U:x∈rl):(aF pl F x.ex).length<=500/\((aF pl F x.ex).flatMap (jv pl)).length<=500/\∀n∈aF pl F x.ex,∃p,pl[n]? =some p/\p.gs.length<=500:=by
 obtain ⟨p,D,_,_,_,R⟩:=cV.mem rl _ hF x U;obtain ⟨t,J,_,I⟩:=dM.1 D;obtain ⟨h1,h2⟩:=V t J p.2 I;have ha:=dW pl F _ _ R;have hl:=cG.len _ _ ha;have Z:=pS p.2.body;have A:(aF pl F x.ex).flatMap (jv pl)=b9 p.2.body:=by rw [dS];exact sj _ _ ha
 refine ⟨aj,by rw [A];exact h2,fun n hn=> ?_⟩;obtain ⟨e,Y,Q⟩:=cG.mem _ _ ha n hn;obtain ⟨q,C,_⟩:=id Q;refine ⟨q,C,?_⟩;have e1:jv pl n=q.gs:=by unfold jv;rw [C]
 have:=s9 (jv pl) _ n hn;rw [e1,A] at this;omega
def QT(hF:cV pl F rl (bk ts))(J:qE ts):YV rl pl (aF pl F):=fun x A=>by
 obtain ⟨h1,_,C⟩:=jJ hF J x A;obtain ⟨p,Q,_,_,_,I⟩:=cV.mem rl _ hF x A;exact ⟨gZ pl F _ _ I aj,aj,fun n hn=>by obtain ⟨q,D,hl⟩:=C n hn;exact ⟨q,D,aj⟩⟩
def wb(hF:cV pl F rl (bk ts))(A:qE ts)(r):(ez rl pl (aF pl F) r).length<=500:=by
 unfold ez
 cases h:rl[r]? with
 |none=>simp
 |some x=>exact (jJ hF A x (bA h)).2.1
def A6(hF:cV pl F rl (bk ts))(A:qE ts):nO rl pl (ez rl pl (aF pl F)):=fun r C=>by
 refine ⟨?_,aP (wb hF A r) aj⟩;intro b kv rv pv kl l w h;have D:=aH C;obtain ⟨h1,h2,I⟩:=QT hF A rl[r] (bn C);have J:(aF pl F rl[r].ex).flatMap (jv pl)=ez rl pl (aF pl F) r:=by unfold ez;rw [D]
 exact Dq b kv rv pv kl rl pl l r rl[r] _ _ w h D h1 (fun m Q=>by obtain ⟨p,R,_⟩:=I m Q;exact (br.1 R).1) J (aP (wb hF A r) aj) h2
def VD(rl:List RV)(kd:ae)(p:PV):Prop:=(p.kind=2->0<=aY kd p.nr rl 0)/\(p.kind=3->0<=aY kd p.nb rl 0)
def qF(kl dE fk)(h:kg kl rl pl dE fk=none)(x)(I:x∈rl)(n)(C:n∈fk x.ex)(p)(D:pl[n]? =some p):VD rl x.kd p:=by
 unfold kg at h;rw [j7] at h;have h1:=h x I;rw [j7] at h1;have h2:=h1 n C;unfold qB at h2;rw [D] at h2;simp only at h2;unfold Gs at h2
 split at h2
 ·simp at h2
 refine ⟨fun A=> ?_,fun A=> ?_⟩
 ·rw [if_pos A] at h2
  split at h2
  ·simp at h2
  omega
 rw [if_neg aj,if_pos A] at h2
 split at h2
 ·simp at h2
 omega
def DG(rl g):∀r∈ed rl g,r<rl.length:=by
 unfold ed
 rcases cP g.ty (b8 g) rl 0 with h|⟨j,h,_,h2⟩
 ·rw [h];simp
 rw [h];simp;omega
def QU(rl dE kd p)(I:VD rl kd p):∀r∈fZ rl dE kd p,r<rl.length:=by
 intro r A;unfold fZ at A
 rcases aQ.1 A with A|A
 ·obtain ⟨g,_,C⟩:=bS.1 A;exact DG rl g r C
 split at A
 ·rename_i D;rw [aR] at A;have h0:=I.1 D
  rcases cP kd p.nr rl 0 with h|⟨j,h,_,h2⟩
  ·omega
  rw [h] at A;omega
 split at A
 ·unfold fj at A;obtain ⟨g,_,C⟩:=bS.1 A;unfold g8 at C
  split at C
  ·rw [aR] at C;rename_i hc;rw [bM,decide_eq_true_eq] at hc
   rcases cP g.ty p.nr rl 0 with h|⟨j,h,_,h2⟩
   ·omega
   rw [h] at C;omega
  simp at C
 simp at A
def A7(rl):∀(l:List Gr),(l.flatMap (ed rl)).length<=l.length
 | []=>ar
 |g::l=>by
  have h1:=QC rl g;have h2:=A7 rl l;exact AP
def QV(rl dE)(h:∀r,(dE r).length<=500)(kd p):(fZ rl dE kd p).length<=p.gs.length+500:=by
 unfold fZ;have h1:=A7 rl p.gs;rw [aZ]
 split
 ·simp only [List.length_cons,List.length_nil];omega
 split
 ·have:=AV rl p.nr (dE (aY kd p.nb rl 0).toNat);have:=h (aY kd p.nb rl 0).toNat;omega
 simp only [List.length_nil];omega
def pT{α β:Type}(f:α->List β)(n):∀(l:List α),(∀a∈l,(f a).length<=n)->(l.flatMap f).length<=l.length*n
 | [],_=>ar
 |a::l,h=>by
  have h1:=h a ar;have h2:=pT f n l (fun a ha=>h a (by simp [ha]));exact O9
def nS(hF:cV pl F rl (bk ts))(U:qE ts)(kl)(h:kg kl rl pl (ez rl pl (aF pl F)) (aF pl F)=none)(x)(R:x∈rl)(lv)(I:∀n∈lv,n∈aF pl F x.ex)(V:lv.length<=500):
  (∀m∈lv,∃p,pl[m]? =some p/\p.gs.length<=1000/\(p.kind=2->0<=aY x.kd p.nr rl 0)/\(p.kind=3->0<=aY x.kd p.nb rl 0))/\(h7 rl pl (ez rl pl (aF pl F)) x.kd lv).length<=1000000/\(∀r∈h7 rl pl (ez rl pl (aF pl F)) x.kd lv,r<rl.length)/\(MW rl pl lv).length<=1000000/\∀r∈MW rl pl lv,r<rl.length:=by
 obtain ⟨_,_,Q⟩:=jJ hF U x R;refine ⟨fun m C=> ?_,?_,?_,?_,?_⟩
 ·obtain ⟨p,D,J⟩:=Q m (I m C);have:=qF kl _ _ h x R m (I m C) p D;exact ⟨p,D,aj,this.1,this.2⟩
 ·refine aP (pT _ 1000 lv (fun m C=> ?_)) aj;obtain ⟨p,D,J⟩:=Q m (I m C);unfold se;rw [D];simp only;have:=QV rl _ (wb hF U) x.kd p;omega
 ·intro r A;unfold h7 at A;obtain ⟨m,C,A⟩:=bS.1 A;obtain ⟨p,D,J⟩:=Q m (I m C);unfold se at A;rw [D] at A;exact QU rl _ x.kd p (qF kl _ _ h x R m (I m C) p D) r A
 ·refine aP (pT _ 1000 lv (fun m C=> ?_)) aj;obtain ⟨p,D,J⟩:=Q m (I m C);unfold se;rw [D];have:=A7 rl p.gs;simp only;unfold Lx;omega
 ·intro r A;unfold MW at A;obtain ⟨m,C,A⟩:=bS.1 A;obtain ⟨p,D,J⟩:=Q m (I m C);unfold se at A;rw [D] at A;unfold Lx at A;obtain ⟨g,_,J⟩:=bS.1 A;exact DG rl g r J
def VE(hF:cV pl F rl (bk ts))(C:qE ts)(kl)(h:kg kl rl pl (ez rl pl (aF pl F)) (aF pl F)=none):lg rl pl (ez rl pl (aF pl F)) (aF pl F):=fun x A=>by
 obtain ⟨h1,h2,J⟩:=QT hF C x A;obtain ⟨D,Q,I,_⟩:=nS hF C kl h x A _ (fun n hn=>hn) (jJ hF C x A).1;exact ⟨⟨h1,h2,D⟩,aj,I⟩
end
def A8 (h:aA:=by
 simp only [cA,List.sum_cons];omega):aA:=h
def nT(pl:List PV):Nat->Nat->Nat
 |0,_=>0
 |f+1,n=>match pl[n]? with
  |none=>1
  |some p=>(p.ps.map (nT pl f)).sum+1
def ot{f g:Nat->Nat}:∀{l:List Nat},(∀a∈l,f a=g a)->(l.map f).sum=(l.map g).sum
 | [],_=>rfl
 |a::l,h=>by
  simp only [cA,List.sum_cons];rw [h a ar,ot (fun b A=>h b (by simp [A]))]
def QW(pl):∀(f n:Nat)(x:Ex),Tr pl f n x->nT pl (f+1) n=nT pl f n
 |0,_,_,h=>h.elim
 |f+1,n,x,h=>by
  obtain ⟨p,A,_⟩:=id h;have C:=h.kids A;rw [nT,nT,A];simp only;rw [ot (f:=nT pl (f+1)) (g:=nT pl f) (fun m D=>by obtain ⟨y,I⟩:=C m D;exact QW pl f m y I)]
def A9(pl){x}(h:Tr pl f n x)(hF:f<=F):nT pl F n=nT pl f n:=by
 obtain ⟨d,rfl⟩:=Nat.exists_eq_add_of_le hF;clear hF
 induction d with
 |zero=>rfl
 |succ d ih=>rw [<-ih];exact QW pl _ _ _ (Tr.le pl (Nat.le_add_right f d) h)
def pU:∀(rs:List (ae×Nat×Ex)) (x:Ex),(aC (ec x rs)).length=(aC x).length+(rs.map fun r=>(aC r.2.2).length+1).sum
 | [],x=>by simp [ec]
 |(t,p,y)::rs,x=>by
  rw [ec,pU rs];simp only [fU,aC,aZ,List.length_cons,List.length_nil,cA,List.sum_cons];omega
def wd{R}(z)(h:∀n x,R n x->z n<=(aC x).length):∀(ns:List Nat) (rs:List (ae×Nat×Ex)),cG R ns (rs.map fun r=>r.2.2)->(ns.map z).sum+rs.length<=(rs.map fun r=>(aC r.2.2).length+1).sum
 | [],[],_=>ar
 |n::ns,r::rs,k=>by
  have h1:z n<=(aC r.2.2).length:=h _ _ k.1;have h2:=wd z h ns rs k.2;simp only [cA,List.sum_cons,List.length_cons];omega
 | [],_::_,k=>k.elim
 |_::_,[],k=>k.elim
def lJ(pl):∀(f n:Nat)(x:Ex),Tr pl f n x->nT pl f n<=(aC x).length
 |0,_,_,h=>h.elim
 |f+1,n,x,⟨p,hp,h⟩=>by
  rw [nT,hp];simp only
  rcases h with ⟨h1,hn,h2⟩|⟨h1,h0,hn,h2⟩|⟨h1,h0,hn,h2⟩|⟨h1,h0,U,ns,V,rs,A,C,D,Q,I,J⟩|⟨h1,h0,Y,U,ns,V,rs,A,C,D,Q,I,J⟩
  ·rw [hn.1,h2];simp [aC]
  ·rw [hn.1,h2];simp [aC]
  ·rw [hn.1,h2];simp [aC]
  ·rw [J,A,pU];have k1:=lJ pl f _ _ C;have R:=wd (nT pl f) (lJ pl f) ns rs D;have k3:0<rs.length:=mX.2 I.2;exact A8
  rw [J,A,pU];have k1:=lJ pl f _ _ C;have R:=wd (nT pl f) (lJ pl f) ns rs D;have k3:0<rs.length:=mX.2 I;exact A8
def Tr.signs{x p}(h:Tr pl (f+1) n x)(V:pl[n]? =some p):p.sg.length<=p.ps.length:=by
 obtain ⟨ab,A,h⟩:=h;rw [V] at A;simp only [aL] at A;subst A
 rcases h with ⟨h1,hn,h2⟩|⟨h1,h0,hn,h2⟩|⟨h1,h0,hn,h2⟩|⟨h1,h0,Y,ns,Z,rs,C,Q,D,I,R,U⟩|⟨h1,h0,J,Y,ns,Z,rs,C,Q,D,I,R,U⟩
 ·rw [hn.2];simp
 ·rw [hn.2];simp
 ·rw [hn.2];simp
 ·have:=cG.len _ _ D;rw [I,C];simp at this ⊢;omega
 rw [J];simp
def Tr.kid_leaves{x p}(h:Tr pl (f+1) n x)(I:pl[n]? =some p):∀m∈p.ps,∀k∈aF pl f m,k∈aF pl (f+1) n:=by
 obtain ⟨J,C,h⟩:=h;rw [I] at C;simp only [aL] at C;subst C;intro m A k D;rw [aF,I];simp only
 rcases h with ⟨h1,hn,h2⟩|⟨h1,h0,hn,h2⟩|⟨h1,h0,hn,h2⟩|⟨h1,_⟩|⟨h1,_⟩
 ·rw [hn.1] at A;simp at A
 ·rw [hn.1] at A;simp at A
 ·rw [hn.1] at A;simp at A
 ·rw [if_pos (.inl h1)];exact bS.2 ⟨m,A,D⟩
 rw [if_pos (.inr h1)];exact bS.2 ⟨m,A,D⟩
def QF(pl:List PV)(F:Nat)(x:RV)(n:Nat):Prop:=∃f y,f<=F/\Tr pl f n y/\∀k∈aF pl F n,k∈aF pl F x.ex
section
variable {pl:List PV}{rl:List RV}{ts:List Ty}{F:Nat}
def we(pl):∀(f n:Nat)(x:Ex),Tr pl f n x->(aF pl f n).length<=nT pl f n
 |0,_,_,h=>h.elim
 |f+1,n,x,h=>by
  obtain ⟨p,A,_⟩:=id h;have C:=h.kids A;rw [aF,nT,A];simp only
  split
  ·rw [List.length_flatMap];have:∀l:List Nat,(∀m∈l,∃y,Tr pl f m y)->(l.map fun a=>(aF pl f a).length).sum<=(l.map (nT pl f)).sum:=by
    intro l
    induction l with
    |nil=>simp
    |cons a l ih=>
     intro hl;obtain ⟨y,D⟩:=hl a ar;have h1:=we pl f a y D;have h2:=ih (fun m hm=>hl m Jj);exact A8
   have:=this p.ps C;omega
  simp
def QX(pl:List PV)(F:Nat)(n:Nat):Prop:=nT pl F n<=500
def Jo(z:Nat->Nat):∀(l:List Nat),∀m∈l,z m<=(l.map z).sum
 |a::l,m,h=>by
  simp only [cA,List.sum_cons]
  rcases bi.1 h with rfl|h
  ·omega
  have:=Jo z l m h;omega
def VF(hF:cV pl F rl (bk ts))(D:qE ts)(kl)(h:kg kl rl pl (ez rl pl (aF pl F)) (aF pl F)=none)(x)(R:x∈rl):GG rl pl (ez rl pl (aF pl F)) (aF pl F) x (fun n=>QF pl F x n/\QX pl F n) (nT pl F):=by
 obtain ⟨p,ae,_,_,_,Z⟩:=cV.mem rl _ hF x R;obtain ⟨t,af,_,A⟩:=dM.1 ae;obtain ⟨h1,h2⟩:=D t af p.2 A;have ah:=lJ pl F _ _ Z;have V:=nS hF D kl h x R (aF pl F x.ex) (fun n hn=>hn) (jJ hF D x R).1;have hl:=(jJ hF D x R).1;refine ⟨⟨⟨F,_,bY _,Z,fun k U=>U⟩,by unfold QX;omega⟩,aj,fun n hn=> ?_,⟨⟨gZ pl F _ _ Z aj,aj,V.1⟩,aj⟩⟩;obtain ⟨⟨f,y,ab,C,hs⟩,ho⟩:=hn;unfold QX at ho
 cases f with
 |zero=>exact C.elim
 |succ g=>
  obtain ⟨q,J,_⟩:=id C;have e1:nT pl F n=(q.ps.map (nT pl F)).sum+1:=by
   rw [A9 pl C ab,nT,J];simp only;rw [ot (f:=nT pl g) (g:=nT pl F) (fun m Q=>by obtain ⟨z,D⟩:=C.kids J m Q;exact (A9 pl D aj).symm)]
  refine ⟨q,J,C.signs J,aj,fun m Q=> ?_⟩;obtain ⟨z,I⟩:=C.kids J m Q;have ac:∀k∈aF pl F m,k∈aF pl F x.ex:=fun k U=>by
   refine hs k ?_;rw [ki pl C ab];rw [ki pl I aj] at U;exact C.kid_leaves J m Q k U
  have ag:nT pl F m<=(q.ps.map (nT pl F)).sum:=Jo _ _ m Q;have ad:(aF pl F m).length<=500:=by
   rw [ki pl I aj];have:=we pl g m z I;rw [<-A9 pl I (show g<=F by omega)] at this;omega
  have Y:=nS hF D kl h x R (aF pl F m) ac ad;refine ⟨⟨⟨g,z,aj,I,ac⟩,by unfold QX;omega⟩,⟨?_,aj,Y.1⟩,aj,?_,?_⟩
  ·have e:aF pl F m=aF pl g m:=ki pl I aj;rw [e];exact gZ pl g m z I (by rw [<-e];omega)
  ·intro r A;unfold fw at A
   rcases aQ.1 A with A|A
   ·exact Y.2.2.1 r A
   split at A
   ·exact V.2.2.2.2 r A
   simp at A
  unfold fw;rw [aZ];have:=Y.2.1;have:=V.2.2.2.1
  split
  ·omega
  simp only [List.length_nil];omega
end
abbrev h8:=@List.mem_iff_getElem?
def DH (h:aA:=by
 simp [h]):aA:=h
def QY (h:aA:=by
 obtain ⟨k,A⟩:=h8.1 ih;have C:=(br.1 A).1;exact h2 k aj _ A _ hy):aA:=h
def QZ (h:aA:=by
 rcases bi.1 h with rfl|h
 ·exact .inl ar
 exact .inr DH):aA:=h
def Ba{α:Type}(nd:α->List α)(S:List α)(x:α):Prop:=∀P:α->Prop,(∀x∈S,P x)->(∀x y,P x->y∈nd x->P y)->P x
def Ba.bz{α:Type}{nd:α->List α}{S x}(h:x∈S):Ba nd S x:=fun _ a _=>a x h
def Ba.step{α:Type}{nd:α->List α}{S x y}(h:Ba nd S x)(k:y∈nd x):Ba nd S y:=fun P a b=>b x y (h P a b) k
def Ba.ind{α:Type}{nd:α->List α}{S}{motive:∀x,Ba nd S x->Prop}(base:∀{x}(h:x∈S),motive x (.bz h))(step:∀{x y}(h:Ba nd S x)(k:y∈nd x),motive x h->motive y (.step h k)){x}(h:Ba nd S x):motive x h:=
 (h (fun x=>∃h,motive x h) (fun x h=>⟨_,base h⟩) (fun x y ⟨h,i⟩ k=>⟨_,step h k i⟩)).elim fun _ i=>i
def GO(f:List Sp)(x:Sp):(f.any fun y=>gO x y)=true↔x∈f:=by
 rw [cX]
 constructor
 ·rintro ⟨y,A,e⟩;rw [(ql x y).1 e];exact A
 exact fun h=>⟨x,h,(ql x x).2 rfl⟩
def pV(ts S):∀(k:Nat)(q f:List Sp),q.length+eH (aX ts) f (gX ts)<k->(∀x∈S,x∈f\/x∈q)->(∀x∈f,Ba (aX ts) S x)->(∀x∈q,Ba (aX ts) S x)->(∀x∈f,∀y∈aX ts x,y∈f\/y∈q)->
  ∀x,x∈dQ (aX ts) k q f↔Ba (aX ts) S x
 |0,q,f,hk,_,_,_,_=>aj
 |k+1,[],f,hk,h1,h2,h3,h4=>by
  intro x;rw [dQ];refine ⟨h2 x,fun h=> ?_⟩
  induction h using Ba.ind with
  |base h=>
   rcases h1 _ h with h|h
   ·exact h
   simp at h
  |step _ C ih=>
   rcases h4 _ ih _ C with h|h
   ·exact h
   simp at h
 |k+1,z::q,f,hk,h1,h2,h3,h4=>by
  intro x;rw [dQ];simp only [List.length_cons] at hk
  by_cases D:(f.any fun y=>gO z y)=true
  ·rw [if_pos D];have I:=(GO f z).1 D;refine pV ts S k q f aj (fun x A=> ?_) h2 (fun x A=>h3 x (by simp [A])) (fun x A y C=> ?_) x
   ·rcases h1 x A with h|h
    ·exact .inl h
    rcases bi.1 h with rfl|h
    ·exact .inl I
    exact .inr h
   rcases h4 x A y C with h|h
   ·exact .inl h
   rcases bi.1 h with rfl|h
   ·exact .inl I
   exact .inr h
  rw [if_neg D];have Q:(f.any fun y=>gO z y)=false:=by
   cases e:(f.any fun y=>gO z y)
   ·rfl
   exact absurd e D
  have hs:=rL ts f z Q;have J:=h3 z ar;refine pV ts S k (q++aX ts z) (f++[z]) (by rw [aZ];omega) (fun x A=> ?_) (fun x A=> ?_) (fun x A=> ?_) (fun x A y C=> ?_) x
  ·rcases h1 x A with h|h
   ·exact .inl DH
   exact QZ
  ·rcases aQ.1 A with h|h
   ·exact h2 x h
   rw [aR.1 h];exact J
  ·rcases aQ.1 A with h|h
   ·exact h3 x DH
   exact .step J h
  rcases aQ.1 A with h|h
  ·rcases h4 x h y C with h|h
   ·exact .inl DH
   exact QZ
  rw [aR.1 h] at C;exact .inr (by simp [C])
def e8(ts S x):x∈cL ts S↔Ba (aX ts) S x:=by
 unfold cL eK;exact pV ts S _ S [] aj (fun x A=> .inr A) ar (fun x A=> .bz A) ar x
def wg(ts S x):hU ts S x=true↔Ba (aX ts) S x:=by
 unfold hU;rw [GO,e8]
def LD(o x y):y∈i7 o x↔y∈o\/y=x:=by
 unfold i7
 split
 ·rename_i h;rw [cX] at h;obtain ⟨k,A,e⟩:=h;have:k=x:=by simpa using e
  subst this
  constructor
  ·exact .inl
  rintro (h|rfl)
  ·exact h
  exact A
 simp
def sl:∀(l o:List Nat)(y:Nat),y∈lI o l↔y∈o\/y∈l
 | [],o,y=>by simp [lI]
 |x::l,o,y=>by
  have:=sl l (i7 o x) y;unfold lI at*;rw [List.foldl_cons,this,LD,bi]
  constructor
  ·rintro ((h|h)|h)
   ·exact .inl h
   ·exact .inr (.inl h)
   exact .inr (.inr h)
  rintro (h|h|h)
  ·exact .inl (.inl h)
  ·exact .inl (.inr h)
  exact .inr h
def LF(o x):∃e,i7 o x=o++e:=by
 unfold i7
 split
 ·exact ⟨[],ar⟩
 exact ⟨[x],rfl⟩
def za:∀(l o:List Nat),∃e,lI o l=o++e
 | [],o=>⟨[],by simp [lI]⟩
 |x::l,o=>by
  obtain ⟨e1,h1⟩:=LF o x;obtain ⟨h,h2⟩:=za l (i7 o x);refine ⟨e1++h,?_⟩;unfold lI at*;rw [List.foldl_cons,h2,h1,dc]
def DI(H S m)(I:∀r,∀x∈H r,x<m):∀(f:Nat)(o:List Nat)(i:Nat),S.length+m<f+i->gQ S m o->(∀x∈o,Ba H S x)->(∀k<i,∀r,o[k]? =some r->∀y∈H r,y∈o)->
  ∀x,x∈vN H f o i↔Ba H S x
 |0,o,i,hf,hg,h1,h2=>by
  intro x;rw [vN];have hl:=hg.le;obtain ⟨ex,rfl,_,_⟩:=hg;refine ⟨h1 x,fun h=> ?_⟩
  induction h using Ba.ind with
  |base h=>simp [h]
  |step _ hy ih=>
   exact QY
 |f+1,o,i,hf,hg,h1,h2=>by
  intro x;rw [vN]
  cases hi:o[i]? with
  |none=>
   simp only;have V:=List.getElem?_eq_none_iff.1 hi;obtain ⟨ex,rfl,_,_⟩:=hg;refine ⟨h1 x,fun h=> ?_⟩
   induction h using Ba.ind with
   |base h=>simp [h]
   |step _ hy ih=>
    exact QY
  |some r=>
   simp only;have Z:=(br.1 hi).1;have R:=h1 r (bA hi);refine DI H S m I f _ (i+1) aj (nQ _ _ hg (I r)) (fun y hy=> ?_) (fun k Y U D y hy=> ?_) x
   ·rcases (sl _ _ _).1 hy with h|h
    ·exact h1 y h
    exact .step R h
   obtain ⟨e,J⟩:=za (H r) o;have Q:k<o.length:=aj;rw [J,ny Q] at D;rw [sl]
   rcases gh k i with h|h
   ·exact .inl (h2 k h U D y hy)
   have:k=i:=aj;subst this;rw [hi] at D;simp only [aL] at D;subst D;exact .inr hy
def DJ(rl pl dE fk)(h:lg rl pl dE fk)(S x):x∈A2 rl pl dE fk S↔Ba (nP rl pl dE fk) S x:=by
 unfold A2;refine DI _ S rl.length (fun r x A=> ?_) _ S 0 aj ⟨[],ar,ar,ar⟩ (fun x A=> .bz A) (fun k D=>aj) x;unfold nP at A
 cases C:rl[r]? with
 |none=>rw [C] at A;simp at A
 |some y=>
  rw [C] at A;exact (h y (bA C)).2.2 x A
def VG(num:α->Int)(nd:α->List α)(H:Nat->List Nat)(S:List α)(N)(C:∀j,j∈N↔∃s∈S,num s=(j:Nat))(A:∀(s:α)(j:Nat),num s=j->∀j',j'∈H j↔∃s'∈nd s,num s'=(j':Nat))(h0:∀s,nd s≠ []->0<=num s)(j):Ba H N j↔∃s,Ba nd S s/\num s=j:=by
 constructor
 ·intro h
  induction h using Ba.ind with
  |base h=>
   obtain ⟨s,hs,e⟩:=(C _).1 h;exact ⟨s,.bz hs,e⟩
  |step _ hy ih=>
   obtain ⟨s,hs,e⟩:=ih;obtain ⟨s',D,e'⟩:=(A s _ e _).1 hy;exact ⟨s',.step hs D,e'⟩
 ·rintro ⟨s,h,e⟩
  induction h using Ba.ind generalizing j with
  |base h=>exact .bz ((C _).2 ⟨_,h,e⟩)
  |@step x y _ hy ih=>
   have I:=h0 x (fun e=>by rw [e] at hy;simp at hy);exact .step (ih (num x).toNat aj) ((A x (num x).toNat aj _).2 ⟨y,hy,e⟩)
abbrev mD:=@List.mem_filterMap
def cG.memr{R}:∀(ns:List Nat)(xs:List Ex),cG R ns xs->∀x∈xs,∃n∈ns,R n x
 | [],[],_,x,h=>by simp at h
 |n::ns,y::xs,k,x,h=>by
  rcases bi.1 h with rfl|h
  ·exact ⟨n,ar,k.1⟩
  obtain ⟨m,A,C⟩:=cG.memr ns xs k.2 x h;exact ⟨m,by simp [A],C⟩
 | [],_::_,k,_,_=>k.elim
 |_::_,[],k,_,_=>k.elim
def VH{x y}(h:Tr pl 1 n x)(k:Tr pl 1 n y):x=y:=by
 obtain ⟨p,I,h⟩:=h;obtain ⟨q,D,k⟩:=k;rw [I] at D;simp only [aL] at D;subst D
 rcases h with ⟨h1,hn,rfl⟩|⟨h1,h0,hn,rfl⟩|⟨h1,h0,hn,rfl⟩|⟨_,_,_,_,_,_,_,C,_⟩|⟨_,_,_,_,_,_,_,_,C,_⟩
 ·rcases k with ⟨k1,kn,rfl⟩|⟨k1,k0,kn,rfl⟩|⟨k1,k0,kn,rfl⟩|⟨_,_,_,_,_,_,_,A,_⟩|⟨_,_,_,_,_,_,_,_,A,_⟩
  ·rfl
  ·omega
  ·omega
  ·exact A.elim
  exact A.elim
 ·rcases k with ⟨k1,kn,rfl⟩|⟨k1,k0,kn,rfl⟩|⟨k1,k0,kn,rfl⟩|⟨_,_,_,_,_,_,_,A,_⟩|⟨_,_,_,_,_,_,_,_,A,_⟩
  ·omega
  ·rfl
  ·omega
  ·exact A.elim
  exact A.elim
 ·rcases k with ⟨k1,kn,rfl⟩|⟨k1,k0,kn,rfl⟩|⟨k1,k0,kn,rfl⟩|⟨_,_,_,_,_,_,_,A,_⟩|⟨_,_,_,_,_,_,_,_,A,_⟩
  ·omega
  ·omega
  ·rfl
  ·exact A.elim
  exact A.elim
 ·exact C.elim
 exact C.elim
def e9:∀(x p:Ex),p∈aJ x↔p∈aC x/\p.l=none
 |⟨n,some x,some y⟩,p=>by
  have h1:=e9 x p;have h2:=e9 y p;simp only [aJ,aC,aQ,aR,h1,h2]
  constructor
  ·rintro (h|h)
   ·exact ⟨.inl (.inl h.1),h.2⟩
   exact ⟨.inr h.1,h.2⟩
  rintro ⟨(h|rfl)|h,k⟩
  ·exact .inl ⟨h,k⟩
  ·simp at k
  exact .inr ⟨h,k⟩
 |⟨n,none,r⟩,p=>by
  simp only [aJ,aC,aR]
  constructor
  ·rintro rfl;exact ⟨rfl,rfl⟩
  exact fun h=>h.1
 |⟨n,some x,none⟩,p=>by simp [aJ,aC]
def eE(ts t r y s):s∈dd ts t r y↔∃e∈aJ y,s∈dJ ts t r e:=by
 unfold dd;rw [bS]
 constructor
 ·rintro ⟨p,A,hs⟩;refine ⟨p,(e9 y p).2 ⟨A,?_⟩,hs⟩;unfold dJ at hs
  cases h:p.l with
  |none=>rfl
  |some z=>rw [h] at hs;simp at hs
 rintro ⟨p,A,hs⟩;exact ⟨p,((e9 y p).1 A).1,hs⟩
def tI(ts:List Ty)(t:Ty)(e:Ex):List Sp:=if e.nd.kind=0 then e.nd.gs.filterMap mg else if e.nd.kind=1 then [(t.name,e.nd.n1)] else (nt ts t e.nd.n1 e.nd.n2).map fun u=>(u.name,e.nd.n2)
structure Kn(pl:List PV)(rl:List RV)(ts:List Ty)(F:Nat):Prop where
 d:eP ts
 b:cU pl rl (bk ts)
 f:cV pl F rl (bk ts)
 g:vU ts
 n:∀t∈ts,∀r∈t.rels,dl r.name=true
 w:∀t∈ts,∀r∈t.rels,WF r.body
 z:qE ts
 k:∀x∈rl,∀n∈aF pl F x.ex,∀p,pl[n]? =some p->VD rl x.kd p
section
variable {pl:List PV}{rl:List RV}{ts:List Ty}{F:Nat}
def Kn.noName(h:Kn pl rl ts F)(k n)(I:dl n=false):aY k n rl 0= -1:=by
 rcases c9 h.d h.b k n with ⟨e,_⟩|⟨j,t,r,_,C,D,_⟩
 ·exact e
 have h1:=(cb C).1;obtain ⟨h2,A⟩:=cH D;have:=h.n t h1 r h2;rw [A,I] at this
 cases this
def Kn.hash(h:Kn pl rl ts F)(g)(C:kh g)(j):j∈ed rl g↔∃s,mg g=some s/\aY s.1 s.2 rl 0=j:=by
 unfold ed mg
 rcases C with ⟨h1,h2⟩|h1|⟨h1,h2⟩
 ·have e:b8 g=em:=by unfold b8;rw [if_neg aj,h2]
  rw [e,h.noName g.ty em Jn,if_neg aj,if_neg aj];simp
 ·have e:b8 g=sg 42:=by unfold b8;rw [if_pos h1]
  rw [e,h.noName g.ty (sg 42) yZ,if_neg aj,if_neg aj];simp
 rw [si h1,if_pos h1]
 constructor
 ·intro A
  split at A
  ·rw [aR] at A;exact ⟨_,rfl,by simp only;omega⟩
  simp at A
 rintro ⟨s,e,hs⟩;simp only [aL] at e;subst e;simp only at hs;rw [if_pos aj,aR];omega
def Kn.gof(h:Kn pl rl ts F){k}(A:(bk ts)[j]? =some (k,r)):ez rl pl (aF pl F) j=b9 r.body:=by
 obtain ⟨x,hx,_,_,_,htr⟩:=cV.get rl _ j _ h.f A;exact GM
def Kn.allg(h:Kn pl rl ts F)(J:t∈ts)(I:r∈t.rels):∀g∈b9 r.body,kh g:=by
 rw [dS];intro g C;obtain ⟨e',A,D⟩:=bS.1 C;exact h.g t J r I e' A g D
def Kn.tie(h:Kn pl rl ts F)(y g)(I:kh g)(j):j∈g8 rl y g↔∃u,iE ts y g=some u/\aY u.name y rl 0=j:=by
 rcases DB h.d h.b y g I with ⟨e1,A⟩|⟨i,u,r,e1,A,J,Q⟩
 ·rw [e1,A];simp
 have hn:aY u.name y rl 0=(i:Int):=by
  have C:=e1;unfold g8 at C
  split at C
  ·rename_i hc;rw [bM,decide_eq_true_eq] at hc;simp only [kO,and_true] at C;have D:u.name=g.ty:=by
    unfold iE at A
    split at A
    ·split at A
     ·cases A
     rename_i v hv
     split at A
     ·simp only [aL] at A;subst A;exact (cb hv).2
     cases A
    cases A
   rw [D];omega
  cases C
 rw [e1,A,aR]
 constructor
 ·rintro rfl;exact ⟨u,rfl,hn⟩
 rintro ⟨v,e,hv⟩;simp only [aL] at e;subst e;omega
def Kn.leaf(h:Kn pl rl ts F)(t)(Z:t∈ts)(n e)(k:Tr pl 1 n e)(ac:∀g∈eY e,kh g)(J:∀p,pl[n]? =some p->VD rl t.name p)(j):j∈se (fZ rl (ez rl pl (aF pl F)) t.name) pl n↔∃s∈tI ts t e,aY s.1 s.2 rl 0=j:=by
 obtain ⟨p,Y,k⟩:=k;have J:=J p Y;unfold se;rw [Y];simp only;unfold fZ tI
 rcases k with ⟨h1,V,rfl⟩|⟨h1,h0,V,rfl⟩|⟨h1,h0,V,rfl⟩|⟨_,_,_,_,_,_,_,D,_⟩|⟨_,_,_,_,_,_,_,_,D,_⟩
 ·simp only [h1,Nat.reduceEqDiff,aV,eh,if_true,bS,mD];have U:∀g∈p.gs,kh g:=by simpa [eY] using ac
  constructor
  ·rintro ⟨g,A,I⟩;obtain ⟨s,e1,C⟩:=(h.hash g (U g A) j).1 I;exact ⟨s,⟨g,A,e1⟩,C⟩
  rintro ⟨s,⟨g,A,e1⟩,C⟩;exact ⟨g,A,(h.hash g (U g A) j).2 ⟨s,e1,C⟩⟩
 ·have h2:=J.1 h1;simp only [h0,h1,Nat.reduceEqDiff,aV,if_true,mq,List.nil_append,aR]
  constructor
  ·intro I;exact ⟨_,rfl,by simp only;omega⟩
  rintro ⟨s,rfl,hs⟩;simp only at hs;omega
 ·have h2:=J.2 h1;simp only [h0,h1,Nat.reduceEqDiff,aV,if_true,mq,List.nil_append]
  rcases c9 h.d h.b t.name p.nb with ⟨e1,_⟩|⟨i,ae,r,e1,D,R,ab⟩
  ·omega
  rw [c8 h.d Z] at D;simp only [aL] at D;subst D;have ad:=(cH R).1;rw [e1,Int.toNat_natCast,h.gof ab];unfold fj nt;rw [R];simp only [bS,aN,mD];have ha:=h.allg Z ad
  constructor
  ·rintro ⟨g,A,I⟩;obtain ⟨u,C,Q⟩:=(h.tie p.nr g (ha g A) j).1 I;exact ⟨_,⟨u,⟨g,A,C⟩,rfl⟩,Q⟩
  rintro ⟨s,⟨u,⟨g,A,C⟩,rfl⟩,Q⟩;exact ⟨g,A,(h.tie p.nr g (ha g A) j).2 ⟨u,C,Q⟩⟩
 ·exact D.elim
 exact D.elim
end
def Q0 (h:aA:=by
 simp only [dL,Prod.mk.injEq] at h;rw [<-h.1];exact fun _=>rfl):aA:=h
def xD(g:Gr):Prop:=g.reach=1->g.rel=em
section
variable (T:Nat->ae)(P:Nat->Nat)
def LG(i:Nat)(g:Gr)(j:Nat)(h:dY T P i=.ok (g,j)):xD g:=by
 unfold dY at h
 split at h
 ·simp at h
 split at h
 ·exact Q0
 split at h
 ·split at h
  ·simp at h
  simp only [dL,Prod.mk.injEq] at h;rw [<-h.1];exact fun e=>by simp at e
 exact Q0
def DK:∀f acc i gs j,dZ T P f acc i=.ok (gs,j)->(∀g∈acc,xD g)->∀g∈gs,xD g
 |0,acc,i,gs,j,h,_=>by simp [dZ] at h
 |f+1,acc,i,gs,j,h,ha=>by
  unfold dZ at h
  split at h
  ·simp at h
  rename_i g0 A hg;have h0:=LG T P _ _ _ hg;have h1:∀g∈acc++[g0],xD g:=fun g hg=>by
   exact QP
  split at h
  ·exact DK f _ _ _ _ h h1
  exact QS
def GE(r:Nat->eI Ex):Prop:=∀i x j,r i=.ok (x,j)->∀e∈aJ x,∀g∈eY e,xD g
def DL(l:List ae)(part:Nat->eI Ex)(hp:GE part):∀f y i x j,joinL T P l part f y i=.ok (x,j)->(∀e∈aJ y,∀g∈eY e,xD g)->∀e∈aJ x,∀g∈eY e,xD g
 |0,y,i,x,j,h,_=>by simp [joinL] at h
 |f+1,y,i,x,j,h,ha=>by
  unfold joinL at h
  split at h
  ·split at h
   ·simp at h
   rename_i z A hz;refine DL l part hp f _ A x j h (fun e he=> ?_);exact QO
  simp only [dL,Prod.mk.injEq] at h;rw [<-h.1];exact ha
def qG(l:List ae)(part:Nat->eI Ex)(A:GE part):GE (fe T P l part):=by
 intro i x j h;unfold fe at h
 split at h
 ·simp at h
 rename_i y D C;exact DL T P l part A _ _ _ x j h (A _ _ _ C)
def DN(U:Bool)(Q:Nat->eI Ex)(hp:GE Q):GE (eR T P U Q):=by
 intro i x j h;unfold eR at h
 split at h
 ·unfold lw at h
  split at h
  ·simp at h
  rename_i gs V hl;simp only [dL,Prod.mk.injEq] at h;rw [<-h.1];intro e J g R;simp only [IB,aJ,aR] at J;subst J;exact DK T P _ _ _ _ _ hl ar g (by simpa [eY] using R)
 exact XH
def DO:∀n,GE (fp T P n)
 |0=>qG T P _ _ (qG T P _ _ (DN T P false _ (fun i x j h=>by simp at h)))
 |n+1=>qG T P _ _ (qG T P _ _ (DN T P true _ (DO n)))
end
def Q1(h:eg (TT s) (PP s)=.ok (ts,m)):∀t∈ts,∀r∈t.rels,∀g∈b9 r.body,xD g:=fun t I r D g A=>by
 obtain ⟨_,i0,J,h1,_⟩:=kj h t I r D;rw [dS] at A;obtain ⟨e,C,A⟩:=bS.1 A;exact DO (TT s) (PP s) 4 _ _ _ h1 e C g A
def Jp(h:vU ts):∀t∈ts,∀r∈t.rels,∀g∈b9 r.body,kh g:=fun t I r D g A=>by
 rw [dS] at A;obtain ⟨e,C,A⟩:=bS.1 A;exact h t I r D e C g A
def DS(h:dC s=true):((bQ s).1.who=dB/\(bQ s).1.of.size=0)\/(bz (bQ s).1.who=true/\(bQ s).1.of.size=0)\/(bz (bQ s).1.who=true/\bz (bQ s).1.of=true):=by
 unfold dC at h;simp only [bM] at h;obtain ⟨⟨_,h2⟩,_⟩:=h;have R:(bQ s).1.who=(np (aG (aG s 64).2.1 35).1 (aG (aG s 64).2.1 35).2.2).2.1:=rfl;have tzo:(bQ s).1.of=(aG (aG s 64).2.1 35).2.1:=rfl;rw [R,tzo];generalize (aG s 64).2.1=r at*;unfold j6 at h2;unfold np;rw [hW]
 cases C:(aG r 35).2.2
 ·rw [C] at h2;simp only [bH,aV,kZ,bM] at h2;obtain ⟨I,U⟩:=fH C;rw [I] at h2;rw [I,U];simp only [pK,Bool.and_true]
  rcases h2 with h2|⟨h2,A⟩
  ·have D:=h2;unfold cg at h2;simp only [bM] at h2;rw [D];exact .inr (.inl ⟨h2.2,rfl⟩)
  have Q:=Je h2;have D:cg r=false:=by unfold cg;rw [Q];simp [show bz dB=false by decide]
  rw [D];exact .inl ⟨rfl,rfl⟩
 rw [C] at h2;simp only [if_true,bM] at h2;obtain ⟨A,J⟩:=h2;unfold cg at A;simp only [bM] at A;simp only [pL,oY,bH,aV];exact .inr (.inr ⟨A.2,J⟩)
def Js(h:s.size=0):s=em:=by
 have e:bJ s=[]:=jP Cb;rw [<-dj s,e]
 rfl
def nU{a c}(h:a≠c):eqs a c=false:=by
 rw [Bool.eq_false_iff];exact fun e=>h ((bo _ _).1 e)
def DT(a):eqs a a=true:=(bo _ _).2 rfl
def VK{T}(Z:(T.who=dB/\T.of.size=0)\/(bz T.who=true/\T.of.size=0)\/(bz T.who=true/\bz T.of=true)){g}(h1:kh g)(h2:xD g):fX g T=i8 T g:=by
 have ad:(jB:ae)=dB:=rfl;have U:∀x:ae,bz x=true->x≠dB:=fun x C e=>by rw [e] at C;exact absurd C au
 have ab:∀x:ae,dl x=true->x≠dB:=fun x C e=>by rw [e] at C;exact absurd C au
 have ac:∀x:ae,dl x=true->x≠em:=fun x C e=>by rw [e] at C;exact absurd C au
 have mg:g.reach=1->b8 g=dB:=fun e=>by unfold b8;rw [if_pos e];rfl
 have I:g.reach≠1->b8 g=g.rel:=fun e=>by unfold b8;rw [if_neg e]
 unfold fX i8;rw [ad]
 cases eqs g.ty T.sub
 ·rfl
 rw [fE,fE]
 rcases Z with ⟨D,ho⟩|⟨D,ho⟩|⟨D,ho⟩
 ·have J:hX T.who T.of=1:=by unfold hX;rw [if_pos ho,D,DT,if_pos rfl]
  have hv:(if eqs T.who dB=true then dB else T.of)=dB:=by rw [D,DT,if_pos rfl]
  rw [J,hv,Js ho]
  rcases h1 with ⟨Q,e⟩|A|⟨R,hn⟩
  ·rw [I aj,Q,e];decide
  ·rw [mg A,A,h2 A];decide
  rw [I aj,R,nU (ab _ hn)];simp
 ·have J:hX T.who T.of=0:=by unfold hX;rw [if_pos ho,nU (U _ D)];rfl
  have hv:(if eqs T.who dB=true then dB else T.of)=T.of:=by rw [nU (U _ D)];rfl
  rw [J,hv,Js ho]
  rcases h1 with ⟨Q,e⟩|A|⟨R,hn⟩
  ·rw [I aj,Q,e];decide
  ·rw [mg A,A,h2 A];decide
  rw [I aj,R,nU (ac _ hn)];simp
 have Y:=di ho;have J:hX T.who T.of=2:=by unfold hX;rw [if_neg aj]
 have hv:(if eqs T.who dB=true then dB else T.of)=T.of:=by rw [nU (U _ D)];rfl
 have V:em≠T.of:=fun e=>by rw [<-e] at Y;exact absurd Y.1 au
 rw [J,hv]
 rcases h1 with ⟨Q,e⟩|A|⟨R,hn⟩
 ·rw [I aj,Q,e,nU V];simp
 ·rw [mg A,A,h2 A,nU V,nU (fun e=>U _ ho e.symm)];simp
 rw [I aj,R];simp
def Rc{l:List Gr}{f g:Gr->Bool}(h:∀x∈l,f x=g x):l.any f=l.any g:=by
 induction l with
 |nil=>rfl
 |cons a l ih=>rw [j2,j2,h a ar,ih (fun x A=>h x (by simp [A]))]
structure Mod(ts:List Ty)(pl:List PV)(rl:List RV)(dE:Nat->List Gr):Prop where
 d:eP ts
 b:cU pl rl (bk ts)
 g:∀(j:Nat)(k:ae)(r:Rl),(bk ts)[j]? =some (k,r)->dE j=b9 r.body
 ok:∀t∈ts,∀r∈t.rels,∀x∈b9 r.body,kh x/\xD x
def wk{dE}(C:Mod ts pl rl dE)(h:sm gs ss)(s):(Vp ts gs s).1=(Ui rl dE ss s).1/\sm (Vp ts gs s).2 (Ui rl dE ss s).2:=by
 unfold Vp Ui
 by_cases h1:dC s=false
 ·rw [if_pos h1,if_pos h1];exact ⟨rfl,h⟩
 have ho:dC s=true:=by simpa using h1
 rw [if_neg h1,if_neg h1,DR h ho];have ab:=DS ho;have ad:gs.length=ss.length:=by rw [h.eq,bX]
 have ac:sm (gs++[(bQ s).1]) (ss++[s]):=⟨by rw [h.eq,cO];rfl,fun y A=>by
  rcases aQ.1 A with A|A
  ·exact h.ok y A
  rw [aR] at A;rw [A];exact ho⟩
 generalize (bQ s).1=T at*
 rcases c9 C.d C.b T.kind T.rel with ⟨e,ae⟩|⟨j,t,r,e,J,Q,Z⟩
 ·have V:mQ ts T=5:=by
   unfold mQ
   split
   ·rfl
   rename_i t I;rw [ae t I]
  rw [V,e,if_pos aj,if_pos aj];exact ⟨rfl,h⟩
 rw [e,j4,if_neg (show ¬((j:Int)<0) by omega),C.g j _ r Z];have R:=(cH Q).1;have I:=(cb J).1;have Y:(b9 r.body).any (fun g=>fX g T)=(b9 r.body).any (i8 T):=Rc (fun x U=>VK ab (C.ok t I r R x U).1 (C.ok t I r R x U).2);have em:mQ ts T=if (b9 r.body).any (i8 T) then 0 else 7:=by
  unfold mQ;rw [J];simp only [Q];rw [Y]
 rw [em]
 cases hv:(b9 r.body).any (i8 T)
 ·rw [if_pos rfl,if_pos ar];exact ⟨rfl,h⟩
 simp only [if_true,ne_eq,not_true_eq_false,aV,Bool.true_eq_false]
 by_cases hi:0<=j9 ss s
 ·rw [if_pos hi,if_pos hi];exact ⟨rfl,h⟩
 rw [if_neg hi,if_neg hi,ad]
 by_cases D:ss.length=24
 ·rw [if_pos D,if_pos D];exact ⟨rfl,h⟩
 rw [if_neg D,if_neg D];exact ⟨rfl,ac⟩
section
variable {pl:List PV}{rl:List RV}{ts:List Ty}{F:Nat}
structure YZ(pl:List PV)(F:Nat)(x:RV)(t:Ty)(r:Rl)(m:Nat)(y:Ex):Prop where
 tr:Tr pl F m y
 xt:Tr pl F x.ex r.body
 lv:∀n∈aF pl F m,n∈aF pl F x.ex
 kd:x.kd=t.name
def YZ.leaf{x y}(s:YZ pl F x t r m y){e}(A:e∈aJ y):∃n∈aF pl F m,Tr pl 1 n e/\e∈aJ r.body:=by
 obtain ⟨n,hn,D⟩:=cG.memr _ _ (dW pl F _ _ s.tr) e A;obtain ⟨e',C,h⟩:=cG.mem _ _ (dW pl F _ _ s.xt) n (s.lv n hn);rw [VH D h] at*;exact ⟨n,hn,h,C⟩
def Kn.hang(h:Kn pl rl ts F){x}(U:x∈rl)(D:t∈ts)(R:r∈t.rels){y}(s:YZ pl F x t r m y)(j):j∈h7 rl pl (ez rl pl (aF pl F)) x.kd (aF pl F m)↔∃e∈aJ y,∃s∈tI ts t e,aY s.1 s.2 rl 0=j:=by
 unfold h7;rw [bS];have key:∀n∈aF pl F m,∀e∈aJ y,Tr pl 1 n e->(j∈se (fZ rl (ez rl pl (aF pl F)) x.kd) pl n↔∃s∈tI ts t e,aY s.1 s.2 rl 0=j):=fun n hn e A C=>by
  rw [s.kd];obtain ⟨_,_,_,I⟩:=s.leaf A;exact h.leaf t D n e C (h.g t D r R e I) (fun p Q=>by rw [<-s.kd];exact h.k x U n (s.lv n hn) p Q) j
 constructor
 ·rintro ⟨n,hn,J⟩;obtain ⟨e,A,C⟩:=cG.mem _ _ (dW pl F _ _ s.tr) n hn;exact ⟨e,A,(key n hn e A C).1 J⟩
 rintro ⟨e,A,hs⟩;obtain ⟨n,hn,C,_⟩:=s.leaf A;exact ⟨n,hn,(key n hn e A C).2 hs⟩
def qH{s}:s∈mh r↔∃e∈aJ r.body,∃g∈eY e,mg g=some s:=by
 unfold mh;rw [dS];simp only [mD,bS]
 constructor
 ·rintro ⟨g,⟨e,h,A⟩,hs⟩;exact ⟨e,h,g,A,hs⟩
 rintro ⟨e,h,g,A,hs⟩;exact ⟨g,⟨e,h,A⟩,hs⟩
def iM{x e}(h:e∈aJ x):e.l=none:=((e9 x e).1 h).2
def fN{e}(h:e.l=none):dJ ts t r e=if e.nd.kind=0 then mh r else tI ts t e:=by
 unfold dJ tI;rw [h];simp only
 split
 ·rfl
 rfl
def lK{e}(h:e.l=none):eY e=if e.nd.kind=0 then e.nd.gs else []:=by
 unfold eY;rw [h]
def Kn.grants(h:Kn pl rl ts F){x:RV}(R:t∈ts)(Q:r∈t.rels)(U:Tr pl F x.ex r.body)(j:Nat):j∈MW rl pl (aF pl F x.ex)↔∃s∈mh r,aY s.1 s.2 rl 0=j:=by
 unfold MW;rw [bS];have key:∀n e,Tr pl 1 n e->se (Lx rl) pl n=(eY e).flatMap (ed rl):=fun n e A=>by
  rw [<-oq A];obtain ⟨p,V,_⟩:=A;unfold se jv Lx;rw [V]
 constructor
 ·rintro ⟨n,hn,I⟩;obtain ⟨e,C,A⟩:=cG.mem _ _ (dW pl F _ _ U) n hn;rw [key n e A,bS] at I;obtain ⟨g,D,I⟩:=I;obtain ⟨s,e1,J⟩:=(h.hash g (h.g t R r Q e C g D) j).1 I;exact ⟨s,qH.2 ⟨e,C,g,D,e1⟩,J⟩
 rintro ⟨s,hs,J⟩;obtain ⟨e,C,g,D,e1⟩:=qH.1 hs;obtain ⟨n,hn,A⟩:=cG.memr _ _ (dW pl F _ _ U) e C;refine ⟨n,hn,?_⟩;rw [key n e A,bS];exact ⟨g,D,(h.hash g (h.g t R r Q e C g D) j).2 ⟨s,e1,J⟩⟩
def Ju{e}(h:e∈aJ r.body)(A:e.nd.kind=0){s}(hs:s∈tI ts t e):s∈mh r:=by
 unfold tI at hs;rw [if_pos A,mD] at hs;obtain ⟨g,C,e1⟩:=hs;exact qH.2 ⟨e,h,g,by rw [lK (iM h),if_pos A];exact C,e1⟩
def Kn.need(h:Kn pl rl ts F){x}(Z:x∈rl)(Q:t∈ts)(J:r∈t.rels){y}(s:YZ pl F x t r m y)(j):j∈fw rl pl (ez rl pl (aF pl F)) x.kd (aF pl F m) (aF pl F x.ex)↔∃s∈dd ts t r y,aY s.1 s.2 rl 0=j:=by
 unfold fw;rw [aQ,h.hang Z Q J s j]
 constructor
 ·rintro (⟨e,A,C,hs,D⟩|U)
  ·refine ⟨C,(eE ts t r y C).2 ⟨e,A,?_⟩,D⟩;obtain ⟨_,_,_,R⟩:=s.leaf A;rw [fN (iM A)]
   split
   ·rename_i I;exact Ju R I hs
   exact hs
  split at U
  ·rename_i ha;obtain ⟨C,hs,D⟩:=(h.grants Q J s.xt j).1 U;rw [cX] at ha;obtain ⟨n,hn,hl⟩:=ha;rw [decide_eq_true_eq] at hl;obtain ⟨e,A,V⟩:=cG.mem _ _ (dW pl F _ _ s.tr) n hn;rw [oq V,lK (iM A)] at hl;refine ⟨C,(eE ts t r y C).2 ⟨e,A,?_⟩,D⟩;rw [fN (iM A)]
   split at hl
   ·rename_i I;rw [if_pos I];exact hs
   simp at hl
  simp at U
 rintro ⟨C,hs,D⟩;obtain ⟨e,A,hs⟩:=(eE ts t r y C).1 hs;rw [fN (iM A)] at hs;obtain ⟨n,hn,V,R⟩:=s.leaf A
 split at hs
 ·rename_i I;right;have Y:=h.w t Q r J e ((e9 _ e).1 R).1 (iM A) I;rw [if_pos (by
   rw [cX];refine ⟨n,hn,?_⟩;rw [decide_eq_true_eq,oq V,lK (iM A),if_pos I];exact mX.2 Y)]
  exact (h.grants Q J s.xt j).2 ⟨C,hs,D⟩
 exact .inl ⟨e,A,C,hs,D⟩
def Kn.spot(h:Kn pl rl ts F){s:Sp}(e:aY s.1 s.2 rl 0=j):∃t r x,t∈ts/\r∈t.rels/\t.name=s.1/\r.name=s.2/\bW ts s.1=some t/\bT t s.2=some r/\(bk ts)[j]? =some (s.1,r)/\rl[j]? =some x/\x.kd=t.name/\Tr pl F x.ex r.body:=by
 rcases c9 h.d h.b s.1 s.2 with ⟨e1,_⟩|⟨i,t,r,e1,C,D,I⟩
 ·omega
 have:i=j:=aj;subst this;obtain ⟨x,V,R,_,_,U⟩:=cV.get rl _ i _ h.f I;obtain ⟨J,A⟩:=cb C;obtain ⟨b1,Q⟩:=cH D;exact ⟨t,r,x,J,b1,A,Q,C,D,I,V,by rw [R,A],U⟩
def Kn.inj(h:Kn pl rl ts F){s s':Sp}(e:aY s.1 s.2 rl 0=j)(e':aY s'.1 s'.2 rl 0=j):s=s':=by
 obtain ⟨t,r,x,_,_,_,h2,_,_,I,_⟩:=h.spot e;obtain ⟨Q,J,R,_,_,_,D,_,_,A,_⟩:=h.spot e';rw [I] at A;simp only [aL,Prod.mk.injEq] at A;obtain ⟨e1,C⟩:=A;subst C;exact Prod.ext e1 (by rw [<-h2,<-D])
def Kn.hangr(h:Kn pl rl ts F)(s)(j:Nat)(e:aY s.1 s.2 rl 0=j)(j':Nat):j'∈nP rl pl (ez rl pl (aF pl F)) (aF pl F) j↔∃s'∈aX ts s,aY s'.1 s'.2 rl 0=j':=by
 obtain ⟨t,r,x,ac,ab,_,_,V,Y,ad,U,J,R⟩:=h.spot e;unfold nP aX;rw [U,V];simp only;rw [Y];simp only;have hs:YZ pl F x t r x.ex r.body:=⟨R,R,fun n hn=>hn,J⟩;rw [h.hang (bA U) ac ab hs]
 constructor
 ·rintro ⟨e,A,C,hs,D⟩;refine ⟨C,(eE ts t r _ C).2 ⟨e,A,?_⟩,D⟩;rw [fN (iM A)]
  split
  ·rename_i J;exact Ju A J hs
  exact hs
 rintro ⟨C,hs,D⟩;obtain ⟨e,A,hs⟩:=(eE ts t r _ C).1 hs;rw [fN (iM A)] at hs
 split at hs
 ·obtain ⟨e',Q,g,I,e1⟩:=qH.1 hs;refine ⟨e',Q,C,?_,D⟩;rw [lK (iM Q)] at I
  split at I
  ·rename_i Z;unfold tI;rw [if_pos Z,mD];exact ⟨g,I,e1⟩
  simp at I
 exact ⟨e,A,C,hs,D⟩
def Kn.bad(h:Kn pl rl ts F)(C:lg rl pl (ez rl pl (aF pl F)) (aF pl F)){x}(V:rl[i]? =some x)(U:t∈ts)(R:r∈t.rels)(hi:aY t.name r.name rl 0=i){y}(s:YZ pl F x t r m y):vP rl pl (ez rl pl (aF pl F)) (aF pl F) i x m=hU ts (dd ts t r y) (t.name,r.name):=by
 rw [gJ,wg];unfold vP;rw [cX];have D:=VG (fun s:Sp=>aY s.1 s.2 rl 0) (aX ts) (nP rl pl (ez rl pl (aF pl F)) (aF pl F)) (dd ts t r y) (fw rl pl (ez rl pl (aF pl F)) x.kd (aF pl F m) (aF pl F x.ex)) (fun j=>h.need (bA V) U R s j) (fun s j e j'=>h.hangr s j e j') (fun s hs=>by
  rcases c9 h.d h.b s.1 s.2 with ⟨e1,Q⟩|⟨i,t,r,e1,Z,ab,ac⟩
  ·refine absurd ?_ hs;unfold aX
   cases I:bW ts s.1 with
   |none=>rfl
   |some u=>simp only;rw [Q u I]
  omega)
 constructor
 ·rintro ⟨k,J,e⟩;have:k=i:=by simpa using e
  subst this;obtain ⟨Y,A,e⟩:=(D k).1 ((DJ _ _ _ _ C _ _).1 J);rw [<-h.inj (s:=Y) (s':=(t.name,r.name)) e hi];exact A
 intro A;exact ⟨i,(DJ _ _ _ _ C _ _).2 ((D i).2 ⟨_,A,hi⟩),ar⟩
end
def GY(rs:List Rl):List Nat:=rs.flatMap fun r=>ld r.body
def so(ts:List Ty):List Nat:=ts.flatMap fun t=>GY t.rels
section
variable (T:Nat->ae)(P:Nat->Nat)
def GZ(i:Nat)(r:Rl)(j:Nat)(h:lW T P i=.ok (r,j)):i6 P i j (ld r.body):=by
 unfold lW at h
 split at h
 ·simp at h
 rename_i u D hn;have C:=fy T _ _ _ _ hn
 split at h
 ·simp at h
 rename_i x I A
 split at h
 ·simp only [dL,Prod.mk.injEq] at h;obtain ⟨rfl,rfl⟩:=h;exact (yY T P 4 _ _ _ A).wide aj aj
 simp at h
def tj:∀(f:Nat)(acc:List Rl)(i:Nat)(rs:List Rl)(m:Nat),dv T P f acc i=.ok (rs,m)->∃new,rs=acc++new/\i<m/\i6 P i m (GY new)
 |0,acc,i,rs,m,h=>by simp [dv] at h
 |f+1,acc,i,rs,m,h=>by
  unfold dv at h
  split at h
  ·exact AY
  split at h
  ·simp at h
  split at h
  ·simp at h
  rename_i r j A;have h1:=GZ T P i r j A;have h2:=(vK T P i r j A).2;obtain ⟨new,rfl,D,C⟩:=tj f _ _ _ _ h;refine ⟨r::new,ar,aj,?_⟩;exact h1.app C aj aj
def qI:∀(f:Nat)(acc:List Ty)(i:Nat)(ts:List Ty)(m:Nat),cS T P f acc i=.ok (ts,m)->∃new,ts=acc++new/\i<=m/\i6 P i m (so new)
 |0,acc,i,ts,m,h=>by simp [cS] at h
 |f+1,acc,i,ts,m,h=>by
  unfold cS at h
  split at h
  ·exact AY
  split at h
  ·simp at h
  split at h
  ·simp at h
  rename_i t j A;obtain ⟨new,rfl,J,C⟩:=qI f _ _ _ _ h;rw [kf] at A
  split at A
  ·unfold mR at A
   split at A
   ·simp at A
   rename_i u U hn;have R:=fy T _ _ _ _ hn
   split at A
   ·simp at A
   rename_i rs V I;simp only [dL,Prod.mk.injEq] at A;obtain ⟨rfl,rfl⟩:=A;obtain ⟨rn,e,Q,D⟩:=tj T P _ _ _ _ _ I;rw [List.nil_append] at e;subst e;refine ⟨⟨T (i+1),P (i+1),rs⟩::new,ar,aj,?_⟩;exact (D.wide (lo':=i) aj aD).app C aj aj
  simp at A
end
def Bc(h:eg (TT s) (PP s)=.ok (ts,m))(hg:Gd s m):(so ts).Pairwise (· < ·):=by
 obtain ⟨new,e,_,ha⟩:=qI (TT s) (PP s) 512 [] 0 ts m h;exact QM
def h9(B:Ex->Bool):Ex->List Nat
 |⟨n,some x,some y⟩=>h9 B x++(if gy n.kind=246/\B y=true then [n.place] else [])++h9 B y
 |⟨_,none,_⟩=>[]
 |⟨_,some _,none⟩=>[]
def wl(B):∀(x:Ex),(h9 B x).Sublist (ld x)
 |⟨n,some x,some y⟩=>by
  simp only [h9,ld];have h1:=wl B x;have h2:=wl B y;rw [dc];refine h1.append ?_
  split
  ·exact h2.cons_cons _
  exact h2.cons _
 |⟨_,none,_⟩=>by simp [h9]
 |⟨_,some _,none⟩=>by simp [h9]
def pW(ts t r):∀(x:Ex),(aC x).findSome? (lF ts t r)=(h9 (fun y=>hU ts (dd ts t r y) (t.name,r.name)) x).head?
 |⟨n,some x,some y⟩=>by
  have h1:=pW ts t r x;have h2:=pW ts t r y;simp only [aC,h9,rN,h1,h2,List.findSome?_cons,List.findSome?_nil,List.head?_append]
  congr 2
  unfold lF;simp only
  by_cases ha:gy n.kind=246
  ·by_cases h:hU ts (dd ts t r y) (t.name,r.name)=true
   ·simp [ha,h]
   simp [ha,h]
  simp [ha]
 |⟨n,none,r'⟩=>by simp [aC,h9,lF]
 |⟨n,some x,none⟩=>by simp [aC,h9]
def G1{l:List Nat}(h:l.Pairwise (· < ·)):dD (k8 l.head?) (fun q=>q∈l):=by
 cases l with
 |nil=>exact .inl ⟨rfl,ar⟩
 |cons a l=>
  refine .inr ⟨a,rfl,ar,fun q A=> ?_⟩
  rcases bi.1 A with rfl|A
  ·exact bY _
  exact Nat.le_of_lt ((k9.1 h).1 q A)
def pX{α:Type}(f:α->List Nat):∀(l:List α),(l.findSome? fun a=>(f a).head?)=(l.flatMap f).head?
 | []=>rfl
 |a::l=>by
  rw [gm,cq,List.head?_append,<-pX f l]
  cases (f a).head? <;>rfl
def wm(ts:List Ty):List Nat:=ts.flatMap fun t=>t.rels.flatMap fun r=>h9 (fun y=>hU ts (dd ts t r y) (t.name,r.name)) r.body
def wn{α:Type}{f g:α->List Nat}(h:∀a,(f a).Sublist (g a)):∀(l:List α),(l.flatMap f).Sublist (l.flatMap g)
 | []=>ar
 |a::l=>by
  rw [cq,cq];exact (h a).append (wn h l)
def DV(h:(so ts).Pairwise (· < ·)):dD (k8 (eT (jr ts) ts)) (fun q=>q∈wm ts):=by
 have e:eT (jr ts) ts=(wm ts).head? :=by
  unfold eT wm;rw [<-pX]
  congr 1
  funext t
  rw [<-pX]
  congr 1
  funext r
  unfold jr;exact pW ts t r r.body
 rw [e];have hs:(wm ts).Sublist (so ts):=by
  unfold wm so GY;exact wn (fun t=>wn (fun r=>wl _ r.body) t.rels) ts
 exact G1 (h.sublist hs)
def XO (h:aA:=by
 rw [cO,List.sum_append];omega):aA:=h
def G7 (h:aA:=by
 rw [hn.1,hn.2];simp only [eh,List.drop_nil,Ug];refine (kJ x bad B hB f q ys c S k2 aj h).congr (fun q=> ?_);simp [h9]):aA:=h
def Re (h:aA:=by
 rw [h3];exact cG.app (show cG (wo pl (g+1) x) (n0::ns) (x0::rs.map fun r=>r.2.2) from ⟨k0,kn⟩) _ _ k2):aA:=h
def Rf(q:aU) (h:bF aU->aA:=by
 intro zq;have kn:cG (wo pl (g+1) x) ns (rs.map fun r=>r.2.2):=DW ns _ (fun m hm z hz=>k1.kid hp (by rw [h3];simp [hm]) hz) h5;have k0:wo pl (g+1) x n0 x0:=k1.kid hp (by rw [h3];simp) h4
 revert kn k0
 exact zq.1):aA:=h ⟨q⟩
def qJ(t p):minus ⟨bJ t,p,false⟩=eqs t (sg 45):=by
 unfold minus eqs;simp only;rw [dj,aO]
 rfl
def Rg:¬gy (kindOf (sg 38))=246:=by decide
def VL:¬gy (kindOf (sg 124))=246:=by decide
def LI:gy (kindOf (sg 45))=246:=by decide
def qK{P:α->Prop}{x:α}{l:List α}:(∃a∈x::l,P a)↔P x\/∃a∈l,P a:=by
 constructor
 ·rintro ⟨a,ha,h⟩
  rcases bi.1 ha with rfl|ha
  ·exact .inl h
  exact .inr ⟨a,ha,h⟩
 rintro (h|⟨a,ha,h⟩)
 ·exact ⟨x,ar,h⟩
 exact ⟨a,by simp [ha],h⟩
def sq(B q):∀(rs:List (ae×Nat×Ex)) (x:Ex),q∈h9 B (ec x rs)↔q∈h9 B x\/(∃r∈rs,gy (kindOf r.1)=246/\B r.2.2=true/\q=r.2.1)\/∃r∈rs,q∈h9 B r.2.2
 | [],x=>by simp [ec]
 |(t,p,y)::rs,x=>by
  rw [ec,sq B q rs];simp only [fU,h9,aQ,qK]
  by_cases h:gy (kindOf t)=246/\B y=true
  ·rw [if_pos h];simp only [aR,h,true_and]
   constructor
   ·rintro (((h|h)|h)|h|h)
    ·exact .inl h
    ·exact .inr (.inl (.inl h))
    ·exact .inr (.inr (.inl h))
    ·exact .inr (.inl (.inr h))
    exact .inr (.inr (.inr h))
   rintro (h|(h|h)|h|h)
   ·exact .inl (.inl (.inl h))
   ·exact .inl (.inl (.inr h))
   ·exact .inr (.inl h)
   ·exact .inl (.inr h)
   exact .inr (.inr h)
  rw [if_neg h];simp only [dK,dP]
  constructor
  ·rintro ((h|h)|h|h)
   ·exact .inl h
   ·exact .inr (.inr (.inl h))
   ·exact .inr (.inl (.inr h))
   exact .inr (.inr (.inr h))
  rintro (A|(A|A)|A|A)
  ·exact .inl (.inl A)
  ·exact absurd ⟨A.1,A.2.1⟩ h
  ·exact .inr (.inl A)
  ·exact .inl (.inr A)
  exact .inr (.inr A)
def zd{D:Nat->Ex->Prop}(bad:Nat->Bool)(B:Ex->Bool)(I:∀n y,D n y->bad n=B y):∀(rs:List (ae×Nat×Ex)) (ns:List Nat) (c:Int) (S:Nat->Prop),cG D ns (rs.map fun r=>r.2.2)->(∀r∈rs,r.1=sg 38\/r.1=sg 45)->dD c S->
  dD (Ug bad ns (rs.map fun r=>⟨bJ r.1,r.2.1,false⟩) c) (fun q=>S q\/∃r∈rs,gy (kindOf r.1)=246/\B r.2.2=true/\q=r.2.1)
 | [],[],c,S,_,_,h=>h.congr (fun q=>ar)
 |r::rs,n::ns,c,S,k,hs,h=>by
  have Q:bad n=B r.2.2:=I n _ k.1;have C:=zd bad B I rs ns;simp only [cA,Ug,qJ,Q]
  rcases hs r ar with e|e
  ·have e1:eqs r.1 (sg 45)=false:=by rw [e];decide
   rw [e1];simp only [eB,bH,aV];refine (C c S k.2 (fun r A=>hs r (by simp [A])) h).congr (fun q=> ?_);simp only [qK,e,Rg,false_and,false_or]
  have e1:eqs r.1 (sg 45)=true:=by rw [e];decide
  rw [e1];simp only [Bool.true_and]
  cases J:B r.2.2
  ·simp only [bH,aV];refine (C c S k.2 (fun r A=>hs r (by simp [A])) h).congr (fun q=> ?_);simp only [qK,J,bH,false_and,and_false,false_or]
  simp only [if_true];refine (C _ _ k.2 (fun r A=>hs r (by simp [A])) (h.step r.2.1)).congr (fun q=> ?_);simp only [qK,J,e,LI,true_and,or_assoc]
 | [],_::_,_,_,k,_,_=>k.elim
 |_::_,[],_,_,k,_,_=>k.elim
section
variable {pl:List PV}{rl:List RV}{ts:List Ty}{F:Nat}
def Rh{y q}(D:Tr pl (f+1) n y)(A:pl[n]? =some q):nT pl (f+1) n=(q.ps.map (nT pl (f+1))).sum+1:=by
 rw [nT,A];simp only;rw [ot (f:=nT pl f) (g:=nT pl (f+1)) (fun m C=>by obtain ⟨z,I⟩:=D.kids A m C;exact (A9 pl I aj).symm)]
def wo(pl:List PV)(F:Nat)(x:RV)(n:Nat)(y:Ex):Prop:=Tr pl F n y/\∀k∈aF pl F n,k∈aF pl F x.ex
def wo.kid{x y p}(h:wo pl (g+1) x n y)(I:pl[n]? =some p)(D:m∈p.ps){z}(C:Tr pl g m z):wo pl (g+1) x m z:=by
 refine ⟨Tr.up pl _ _ _ C,fun k A=>h.2 k ?_⟩;rw [ki pl C aj] at A;exact h.1.kid_leaves I m D k A
def DW{R S}:∀(ns:List Nat)(xs:List Ex),(∀n∈ns,∀x,R n x->S n x)->cG R ns xs->cG S ns xs
 | [],[],_,_=>trivial
 |n::ns,x::xs,h,k=>⟨h n ar x k.1,DW ns xs (fun n hn=>h n (by simp [hn])) k.2⟩
 | [],_::_,_,k=>k.elim
 |_::_,[],_,k=>k.elim
def kJ{g}(x bad B)(hB:∀n y,wo pl (g+1) x n y->bad n=B y):∀(f:Nat)(q:List Nat)(ys:List Ex)(c:Int)(S:Nat->Prop),cG (wo pl (g+1) x) q ys->(q.map (nT pl (g+1))).sum<f->dD c S->
  dD (oW bad pl f q c) (fun p=>S p\/∃y∈ys,p∈h9 B y)
 |0,_,_,_,_,_,h,_=>aj
 |f+1,[],[],c,S,_,_,h=>h.congr (fun q=>ar)
 |f+1,n::q,y::ys,c,S,k,hs,h=>by
  obtain ⟨k1,k2⟩:=k;obtain ⟨p,hp,hc⟩:=id k1.1;have hz:=Rh k1.1 hp;simp only [cA,List.sum_cons] at hs;rw [oW,hp];simp only
  rcases hc with ⟨h1,hn,rfl⟩|⟨h1,h0,hn,rfl⟩|⟨h1,h0,hn,rfl⟩|⟨h1,h0,n0,ns,x0,rs,h3,h4,h5,C,I,rfl⟩|⟨h1,h0,Q,n0,ns,x0,rs,h3,h4,h5,C,I,rfl⟩
  ·exact G7
  ·exact G7
  ·exact G7
  ·refine Rf ?_;intro kn k0;have R:=zd bad B hB rs ns c S kn I.1 h;have D:cG (wo pl (g+1) x) (q++p.ps) (ys++(x0::rs.map fun r=>r.2.2)):=by
    exact Re
   have hl:=kJ x bad B hB f _ _ _ _ D XO R;rw [C];rw [h3] at hl ⊢;simp only [q8,m6];refine hl.congr (fun p=> ?_);simp only [sq,aQ,or_and_right,exists_or,bi,exists_eq_left,aN]
   constructor
   ·rintro ((h|h)|h|h|⟨z,⟨r,A,rfl⟩,hz⟩)
    ·exact .inl h
    ·exact .inr (.inl (.inr (.inl h)))
    ·exact .inr (.inr h)
    ·exact .inr (.inl (.inl h))
    exact .inr (.inl (.inr (.inr ⟨r,A,hz⟩)))
   rintro (h|(h|h|⟨r,A,hz⟩)|h)
   ·exact .inl (.inl h)
   ·exact .inr (.inr (.inl h))
   ·exact .inl (.inr h)
   ·exact .inr (.inr (.inr ⟨_,⟨r,A,rfl⟩,hz⟩))
   exact .inr (.inl h)
  refine Rf ?_;intro kn k0;have D:cG (wo pl (g+1) x) (q++p.ps) (ys++(x0::rs.map fun r=>r.2.2)):=by
   exact Re
  have hl:=kJ x bad B hB f _ _ _ _ D XO h;rw [Q];have e:∀l:List Nat,Ug bad l (List.drop 1 []) c=c:=fun l=>by cases l<;>rfl
  rw [e];refine hl.congr (fun p=> ?_);have U:¬∃r∈rs,gy (kindOf r.1)=246/\B r.2.2=true/\p=r.2.1:=by
   rintro ⟨r,A,J,_⟩;rw [C r A] at J;exact VL J
  simp only [sq,aQ,or_and_right,exists_or,bi,exists_eq_left,aN,U,false_or]
  constructor
  ·rintro (h|h|h|⟨z,⟨r,A,rfl⟩,hz⟩)
   ·exact .inl h
   ·exact .inr (.inr h)
   ·exact .inr (.inl (.inl h))
   exact .inr (.inl (.inr ⟨r,A,hz⟩))
  rintro (h|(h|⟨r,A,hz⟩)|h)
  ·exact .inl h
  ·exact .inr (.inr (.inl h))
  ·exact .inr (.inr (.inr ⟨_,⟨r,A,rfl⟩,hz⟩))
  exact .inr (.inl h)
 |f+1,[],_::_,_,_,k,_,_=>k.elim
 |f+1,_::_,[],_,_,k,_,_=>k.elim
end
def xE(h:eP ts):(bk ts).Pairwise fun p q=>¬(p.1=q.1/\p.2.name=q.2.name):=by
 unfold bk;rw [List.pairwise_flatMap];refine ⟨fun t C=> ?_,?_⟩
 ·rw [rZ];exact (h.rl t C).imp (fun {a b} A e=>A e.2)
 refine h.ty.imp (fun {a b} A=> ?_);intro x D y I e;obtain ⟨r,_,rfl⟩:=aN.1 D;obtain ⟨q,_,rfl⟩:=aN.1 I;exact A e.1
section
variable {pl:List PV}{rl:List RV}{ts:List Ty}{F:Nat}
def Kn.num(h:Kn pl rl ts F){p:ae×Rl}(hi:(bk ts)[i]? =some p):aY p.1 p.2.name rl 0=i:=by
 obtain ⟨t,J,e1,Z⟩:=dM.1 (bA hi)
 rcases c9 h.d h.b p.1 p.2.name with ⟨_,Y⟩|⟨j,ac,r,e,ab,U,V⟩
 ·have:=Y t (by rw [<-e1];exact c8 h.d J);rw [pR (h.d.rl t J) Z] at this
  cases this
 have hn:=(cH U).2;have C:=xE h.d;rw [List.pairwise_iff_getElem] at C;obtain ⟨Q,D⟩:=br.1 hi;obtain ⟨R,I⟩:=br.1 V
 rcases Nat.lt_trichotomy i j with A|A|A
 ·exact absurd (by rw [D,I];exact ⟨rfl,hn.symm⟩) (C i j Q R A)
 ·rw [e,A]
 exact absurd (by rw [D,I];exact ⟨rfl,hn⟩) (C j i R Q A)
def Ri(ts:List Ty)(p:ae×Rl)(q:Nat):Prop:=∃t∈ts,t.name=p.1/\q∈h9 (fun y=>hU ts (dd ts t p.2 y) (t.name,p.2.name)) p.2.body
def Kn.best(h:Kn pl rl ts F)(ab:lg rl pl (ez rl pl (aF pl F)) (aF pl F)){x}(V:rl[i]? =some x){p:ae×Rl}(hi:(bk ts)[i]? =some p)(c S)(ac:dD c S):dD (oW (vP rl pl (ez rl pl (aF pl F)) (aF pl F) i x) pl (nT pl F x.ex+1) [x.ex] c) (fun q=>S q\/Ri ts p q):=by
 obtain ⟨t,I,e1,ad⟩:=dM.1 (bA hi);obtain ⟨ah,Q,D,_,_,J⟩:=cV.get rl _ i p h.f hi;rw [V] at Q;simp only [aL] at Q;subst Q;have U:=h.num hi;rw [<-e1] at U
 cases F with
 |zero=>exact J.elim
 |succ g=>
  have Z:∀n y,wo pl (g+1) x n y->vP rl pl (ez rl pl (aF pl (g+1))) (aF pl (g+1)) i x n=hU ts (dd ts t p.2 y) (t.name,p.2.name):=fun n y hs=>
   h.bad ab V I ad U ⟨hs.1,J,hs.2,by rw [D,e1]⟩
  refine (kJ x _ (fun y=>hU ts (dd ts t p.2 y) (t.name,p.2.name)) Z _ [x.ex] [p.2.body] c S ⟨⟨J,fun k D=>D⟩,trivial⟩ ar ac).congr (fun q=> ?_);simp only [aR,exists_eq_left];unfold Ri
  constructor
  ·rintro (A|A)
   ·exact .inl A
   exact .inr ⟨t,I,e1,A⟩
  rintro (A|⟨ag,af,Y,A⟩)
  ·exact .inl A
  have R:=c8 h.d I;have C:=c8 h.d af;rw [e1] at R;rw [Y,R] at C;simp only [aL] at C;subst C;exact .inr A
def Kn.loops(h:Kn pl rl ts F)(A:lg rl pl (ez rl pl (aF pl F)) (aF pl F)):∀(xs:List RV) (ps:List (ae×Rl)) (i:Nat) (c:Int) (S:Nat->Prop),cV pl F xs ps->(∀k,xs[k]? =rl[i+k]?)->(∀k,ps[k]? =(bk ts)[i+k]?)->dD c S->
  dD (loopsR rl pl (ez rl pl (aF pl F)) (aF pl F) (fun _=>nT pl F) xs i c) (fun q=>S q\/∃p∈ps,Ri ts p q)
 | [],[],i,c,S,_,_,_,hc=>by
  rw [loopsR];exact hc.congr (fun q=>ar)
 |x::xs,p::ps,i,c,S,hf,hx,hp,hc=>by
  rw [loopsR];have h1:=h.best A (i:=i) (x:=x) (by have:=hx 0;simpa using this.symm) (p:=p) (by have:=hp 0;simpa using this.symm) c S hc;refine (Kn.loops h A xs ps (i+1) _ _ hf.2 (fun k=> ?_) (fun k=> ?_) h1).congr (fun q=> ?_)
  ·have:=hx (k+1);simp only [List.getElem?_cons_succ] at this;rw [this];congr 1;omega
  ·have:=hp (k+1);simp only [List.getElem?_cons_succ] at this;rw [this];congr 1;omega
  rw [qK,or_assoc]
 | [],_::_,_,_,_,k,_,_,_=>k.elim
 |_::_,[],_,_,_,k,_,_,_=>k.elim
def LK:q∈wm ts↔∃t∈ts,∃r∈t.rels,q∈h9 (fun y=>hU ts (dd ts t r y) (t.name,r.name)) r.body:=by
 unfold wm;simp only [bS]
def Kn.loopsR(h:Kn pl rl ts F)(Q:lg rl pl (ez rl pl (aF pl F)) (aF pl F))(hs:(so ts).Pairwise (· < ·)):loopsR rl pl (ez rl pl (aF pl F)) (aF pl F) (fun _=>nT pl F) rl 0 (-1)=k8 (eT (jr ts) ts):=by
 have h1:=h.loops Q rl (bk ts) 0 (-1) (fun _=>False) h.f (fun k=>ar) (fun k=>ar) (.inl ⟨rfl,fun q A=>A⟩);refine h1.unique ((DV hs).congr (fun q=> ?_));rw [LK,false_or]
 constructor
 ·rintro ⟨t,C,r,I,A⟩;exact ⟨(t.name,r),dM.2 ⟨t,C,rfl,I⟩,t,C,rfl,A⟩
 rintro ⟨p,R,t,C,e,A⟩;obtain ⟨V,U,e',I⟩:=dM.1 R;have J:=c8 h.d C;have D:=c8 h.d U;rw [e] at J;rw [e',J] at D;simp only [aL] at D;subst D;exact ⟨t,C,p.2,I,A⟩
end
def VM(hs:s.size<=500)(kl rl pl ts m)(h:eg (TT s) (PP s)=.ok (ts,m))(C:Gd s m)(D:vH pl kl rl ts):QG kl rl pl ts:=by
 obtain ⟨F,hF⟩:=cU.fuel rl _ D.2;have A:=sized h C hs;have Y:=vZ h;obtain ⟨rfl,U⟩:=id D;refine ⟨ez rl pl (aF pl F),aF pl F,fun x n=>QF pl F x n/\QX pl F n,fun _=>nT pl F,A6 hF A,QT hF A,Gu D (xC h C),fun ae=> ?_⟩;have V:=(nR ts [] ae).2;have hn:=tf V U hF Y;refine ⟨hn,fun ac=> ?_⟩;rw [ac] at hn;have R:=VE hF A _ hn;refine ⟨R,fun x Q=>VF hF A _ hn x Q,?_⟩;have Z:Kn pl rl ts F:=⟨V,U,hF,Y,fun t J r I=>(kj h t J r I).1,fun t J r I=>(((iH (TT s) (PP s) ts m h).1 t J).1 r I).wf,A,fun x Q n ab p ad=>qF _ _ _ hn x Q n ab p ad⟩;exact Z.loopsR R (Bc h C)
def nV(s w)(hs:s.size<=500):Calls prog 80 #[.string s] w (QH s w):=Lz s w hs (fun kl rl pl ts m h A C=>VM hs kl rl pl ts m h A C)
def XM(ts:List Ty)(I:Nat->Prop)(bm:Nat)(w:af):Prop:=∃(kv rv pv:ag) (kl:List (ae×Nat)) (rl:List RV) (pl:List PV) (l:List PX) (h:Nat->List Gr),YP w bm kv rv pv kl rl pl l/\Mod ts pl rl h/\nO rl pl h/\∀x∈l,∀k,x.2.2.1.ownBlock=some k->I k
def KX(I:Nat->Prop)(w w':af):Prop:=∀(g:Nat)(cs:Array ag)(T:TypeId)(f:Nat×Nat),w.heap[g]? =some (Obj.cells cs T f)->RT T->(T=3->I g)->w'.heap[g]? =w.heap[g]?
def Rj(hF:cV pl F rl (bk ts)){k}(A:(bk ts)[j]? =some (k,r)):ez rl pl (aF pl F) j=b9 r.body:=by
 obtain ⟨x,hx,_,_,_,htr⟩:=cV.get rl _ j _ hF A;exact GM
def parse_ok(A:fq s=.ok ts)(w:af):Calls prog 80 #[.string s] w fun e w'=>∃bm,e=.returned (.tuple #[.pointer (some ⟨bm,5,none⟩),.int .i64 0,.int .i64 0])/\an w w'/\XM ts (fun k=>w.heap.size<=k) bm w':=by
 unfold fq at A
 split at A
 ·simp at A
 rename_i hs
 split at A
 ·simp at A
 rename_i Q m C
 split at A
 ·simp at A
 rename_i hc;simp only [dL] at A;subst A;refine (nV s w aj).mono fun e w' h=> ?_
 have h2:=h.2;rw [C] at h2;simp only [hc] at h2;obtain ⟨b,kv,rv,pv,kl,rl,pl,l,e1,U,I,Y,R,V⟩:=h2;obtain ⟨F,hF⟩:=cU.fuel rl _ I.2;have ad:=sized C Y aj;have ac:CF [] Q=none:=by
  unfold gt at hc
  split at hc
  ·simp at hc
  assumption
 exact ⟨b,e1,h.1,kv,rv,pv,kl,rl,pl,l,ez rl pl (aF pl F),⟨U,R⟩,⟨(nR Q [] ac).2,I.2,fun j k r Z=>Rj hF Z,fun t J r A x D=>⟨Jp (vZ C) t J r A x D,Q1 C t J r A x D⟩⟩,A6 hF ad,fun x D k ab=>V x D k (.inr (.inl ab))⟩
def LL(h:gt ts=some (p,c)):c≠0:=by
 unfold gt at h
 split at h
 ·simp at h;omega
 split at h
 ·simp at h;omega
 split at h
 ·simp at h;omega
 simp at h
def ou{o}(A:fq s=.error (o,c))(w):c≠0/\∃p:Nat,Calls prog 80 #[.string s] w fun e w'=>e=.returned (.tuple #[.pointer none,.int .i64 c,.int .i64 p])/\an w w':=by
 unfold fq at A
 split at A
 ·rename_i hs;simp only [Except.error.injEq,gM] at A;obtain ⟨_,rfl⟩:=A;exact ⟨aj,0,GL s w hs⟩
 rename_i hs;have C:=nV s w aj
 split at A
 ·rename_i c0 j D;simp only [Except.error.injEq,gM] at A;obtain ⟨_,rfl⟩:=A;obtain ⟨e,w',fr,J,_⟩:=C [];have I:=J.2;rw [D] at I;refine ⟨I.1,PP s j,C.mono fun e w' h=> ?_⟩;have h2:=h.2;rw [D] at h2;exact ⟨h2.2,h.1⟩
 rename_i ts m D
 split at A
 ·rename_i p c0 hc;simp only [Except.error.injEq,gM] at A;obtain ⟨_,rfl⟩:=A;refine ⟨LL hc,p,C.mono fun e w' h=> ?_⟩;have h2:=h.2;rw [D] at h2;simp only [hc] at h2;exact ⟨h2,h.1⟩
 simp at A
def SrcM(ts:List Ty)(pl:List PV)(kl:List (ae×Nat))(rl:List RV):Prop:=∃s m,s.size<=500/\fq s=.ok ts/\eg (TT s) (PP s)=.ok (ts,m)/\Gd s m/\vH pl kl rl ts
def XS(ts:List Ty)(I:Nat->Prop)(bm:Nat)(w:af):Prop:=∃(kv rv pv:ag) (kl:List (ae×Nat)) (rl:List RV) (pl:List PV) (l:List PX) (h:Nat->List Gr),YP w bm kv rv pv kl rl pl l/\Mod ts pl rl h/\(nO rl pl h/\SrcM ts pl kl rl)/\∀x∈l,∀k,x.2.2.1.ownBlock=some k->I k
def XS.kx{I}(h:XS ts I bm w)(k:KX I w w'):XS ts I bm w':=by
 obtain ⟨kv,rv,pv,kl,rl,pl,l,Y,U,h2,Z,Q⟩:=h;have C:∀{base:Nat} {e:TypeId} {size:Nat} {v:ag} {n:Nat} {xs:List ag},w.ownsRow base e size v n xs->RT e->e≠3->w'.ownsRow base e size v n xs:=fun h ab hn=>ay h (fun g cs f _ D=>k g cs _ f D ab (fun e=>absurd e hn))
 obtain ⟨cs,R⟩:=U.blk;have e:=k bm cs _ _ R (.inl rfl) (fun h=>absurd h au);have hc:∀o v,w.cell? ⟨bm,o,none⟩=some v->w'.cell? ⟨bm,o,none⟩=some v:=fun o v hv=>(ji (w:=w) e).trans hv
 have A:=U.dm;refine ⟨kv,rv,pv,kl,rl,pl,l,Y,⟨⟨hc _ _ A.c5,hc _ _ A.c6,hc _ _ A.c7,C A.kt (.inr (.inl rfl)) au,C A.rt (.inr (.inr (.inl rfl))) au,⟨A.pt.fst,C A.pt.row (.inr (.inr (.inr (.inl rfl)))) au,fun x V=> ?_⟩,A.kn,A.rn,A.pn⟩,cs,e.trans R⟩,h2,Z,Q⟩;have J:=A.pt.rep x V;exact ⟨C J.g (.inr (.inr (.inr (.inr (.inl rfl))))) au,cC J.p (fun g cs f ac D=>k g cs _ f D (.inr (.inr (.inr (.inr (.inr (.inl rfl)))))) (fun _=>Q x V g ac)),C J.s (.inr (.inr (.inr (.inr (.inr (.inr rfl)))))) au⟩
def XS.kd{I}(h:XS ts I bm w)(k:KD w w'):XS ts I bm w':=h.kx (fun g cs T f A C _=>k g cs T f A C)
def ze(A:fq s=.ok ts)(w):Calls prog 80 #[.string s] w fun e w'=>∃bm,e=.returned (.tuple #[.pointer (some ⟨bm,5,none⟩),.int .i64 0,.int .i64 0])/\an w w'/\XS ts (fun k=>w.heap.size<=k) bm w':=by
 have ac:=A;unfold fq at A
 split at A
 ·simp at A
 rename_i hs
 split at A
 ·simp at A
 rename_i R m C
 split at A
 ·simp at A
 rename_i hc;simp only [dL] at A;subst A;refine (nV s w aj).mono fun e w' h=> ?_
 have h2:=h.2;rw [C] at h2;simp only [hc] at h2;obtain ⟨b,kv,rv,pv,kl,rl,pl,l,e1,V,I,J,U,Y⟩:=h2;obtain ⟨F,hF⟩:=cU.fuel rl _ I.2;have ae:=sized C J aj;have ad:CF [] R=none:=by
  unfold gt at hc
  split at hc
  ·simp at hc
  assumption
 exact ⟨b,e1,h.1,kv,rv,pv,kl,rl,pl,l,ez rl pl (aF pl F),⟨V,U⟩,⟨(nR R [] ad).2,I.2,fun j k r Z=>Rj hF Z,fun t Q r A x D=>⟨Jp (vZ C) t Q r A x D,Q1 C t Q r A x D⟩⟩,⟨A6 hF ae,s,m,aj,ac,C,J,I⟩,fun x D k ab=>Y x D k (.inr (.inl ab))⟩
def tm(ts:List Ty)(gs:List Tu):Prop:=∀t∈gs,mQ ts t=0
def VN(h:tm ts gs)(s):tm ts (Vp ts gs s).2:=by
 unfold Vp
 split
 ·exact h
 split
 ·exact h
 rename_i h0
 split
 ·exact h
 split
 ·exact h
 intro t A
 rcases aQ.1 A with A|A
 ·exact h t A
 rw [aR] at A;subst A
 simpa using h0
def Rk(h:tm ts gs)(s):tm ts (AD gs s).2:=by
 unfold AD
 split
 ·exact h
 split
 ·exact h
 exact fun t A=>h t (List.mem_of_mem_eraseIdx A)
